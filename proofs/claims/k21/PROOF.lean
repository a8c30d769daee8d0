import PyProof.Rows.All
import Wide.All
import OpenK.AllK
import Wide.FinOn
import Lean
import PyProof.EqAt
import PyProof.EqKinds
import PyProof.TupleCall
import PySem.Challenge.RW_rowbetween_k21_met
set_option Elab.async false
set_option linter.all false
set_option maxRecDepth 100000
set_option maxHeartbeats 4000000
set_option Elab.async false
set_option linter.all false
set_option maxRecDepth 100000
local macro_rules | `(tactic| walk_at "v3") => `(tactic| first | exact Or.inl rfl | exact Or.inr (Or.inl rfl) | exact Or.inr (Or.inr rfl))
local macro_rules | `(tactic| walk_at "v2") => `(tactic| first | exact Or.inl rfl | exact Or.inr rfl)
local macro_rules | `(tactic| walk_at "v1") => `(tactic| first | exact .inl rfl | exact .inr rfl | assumption)
namespace L2
open PySem
def ce (s:Stmt):Arguments:=match s with
 | .FunctionDef _ a _ _ _ _ _ _ _ _=>a
 | _=>{ posonlyargs:=[],args:=[],vararg:=none,kwonlyargs:=[],kw_defaults:=[],kwarg:=none,defaults:=[] }
def a9 (s:Stmt):List Stmt:=match s with
 | .FunctionDef _ _ b _ _ _ _ _ _ _=>b
 | _=>[]
def ak (s:Stmt):Scope:=match s with
 | .FunctionDef _ _ _ _ _ _ sc _ _ _=>sc
 | _=>{ kind:=.function,names:=[],isGenerator:=false,isCoroutine:=false }
end L2
namespace DL
open PySem PySem.Spec PyProof.Rows L2
structure FdK (K:PySem.W.Frag) (x:Str) (st:Stmt):Prop where
 ex:∃ (f:Addr) (oc:Value) (od an:Option Addr) (sl:Array (Option Value)) (kV dc pm cd ct:Value),PySem.W.nsIn K mainGlobals x=some (some (.ref f))∧K.lookup f=some ⟨oc,od,.func (PySem.W.fnOf x x (ce st) (a9 st) (ak st) .none kV dc pm an cd ct),sl⟩∧PySem.W.codeIn K cd x=true∧PySem.W.keepIn K (.ref f)=true
end DL
namespace Lw
open PySem L2 DL
def top (i:Nat):Stmt:=PySem.Challenge.pw_rowbetween_k21_met.main.body.getD i (.Pass ⟨0,0,0,0⟩)
abbrev s_common_divisor:Stmt:=top 5
abbrev s_made:Stmt:=top 6
abbrev s_plus:Stmt:=top 7
abbrev s_times:Stmt:=top 8
abbrev s_less:Stmt:=top 9
abbrev s_is_row:Stmt:=top 15
abbrev s_mark_names:Stmt:=top 16
abbrev s_names_of:Stmt:=top 17
abbrev s_tops_of:Stmt:=top 18
abbrev s_top_of_sum:Stmt:=top 19
abbrev s_row_is_so:Stmt:=top 20
abbrev s_part_is_so:Stmt:=top 21
abbrev s_is_so:Stmt:=top 22
abbrev s_added:Stmt:=top 24
abbrev s_weight_of:Stmt:=top 25
abbrev s_alone:Stmt:=top 26
abbrev s_shortened:Stmt:=top 27
abbrev s_crossed:Stmt:=top 28
abbrev s_without:Stmt:=top 29
abbrev s_taken_out:Stmt:=top 30
abbrev s_bound_on:Stmt:=top 31
abbrev s_tighter:Stmt:=top 12
abbrev s_number_in:Stmt:=top 13
abbrev s_piece_for:Stmt:=top 32
abbrev s_found_back:Stmt:=top 33
abbrev s_solved:Stmt:=top 34
abbrev s_met:Stmt:=top 35
abbrev s__law_cell:Stmt:=top 37
abbrev s__law_whole:Stmt:=top 41
abbrev s__law_is_fraction:Stmt:=top 42
abbrev s__law_over:Stmt:=top 43
abbrev s__law_total:Stmt:=top 44
abbrev s__law_row_so:Stmt:=top 45
abbrev s__law_number:Stmt:=top 38
abbrev s__law_letters:Stmt:=top 39
abbrev s__law_row:Stmt:=top 40
abbrev s__law_turned:Stmt:=top 46
abbrev s__law_rows:Stmt:=top 47
abbrev s__law_point_good:Stmt:=top 48
abbrev s__law_weights_good:Stmt:=top 49
abbrev s_law:Stmt:=top 50
end Lw
namespace Hd
open PySem PySem.W PyProof.Rows
set_option maxRecDepth 100000
set_option maxHeartbeats 0
def kept (i:Nat):Stmt:=PySem.Challenge.pw_rowbetween_k21_met.main.body.getD i (.Pass ⟨0,0,0,0⟩)
def vw:Program:={ PySem.Challenge.pw_rowbetween_k21_met with main:={ PySem.Challenge.pw_rowbetween_k21_met.main with body:=[kept 1,kept 2,kept 3,kept 5,kept 6,kept 7,kept 8,kept 9,kept 11,kept 12,kept 13,kept 15,kept 16,kept 17,kept 18,kept 19,kept 20,kept 21,kept 22,kept 24,kept 25,kept 26,kept 27,kept 28,kept 29,kept 30,kept 31,kept 32,kept 33,kept 34,kept 35,kept 37,kept 38,kept 39,kept 40,kept 41,kept 42,kept 43,kept 44,kept 45,kept 46,kept 47,kept 48,kept 49,kept 50] } }
def xt (s:Shared):Bool:=xlAt vw [] s && recOk (RowW.records (OpenRow.toRowW PySem.Challenge.rw_rowbetween_k21_met.row)) s
noncomputable def st0 (w:World) (os:OsState):Shared:=⟨boot_heap w.params,#[],boot_drawn,boot_toks,os⟩
noncomputable def rn (w:World) (os:OsState):=(topRun treeTable PySem.Challenge.pw_rowbetween_k21_met w 11 (some (Value.ref 6)) 4094 (st0 w os) (topStub PySem.Challenge.pw_rowbetween_k21_met))
local macro_rules | `(tactic| walk_at "hf") => `(tactic| (unfold Hd.rn Hd.st0; (try rw [PySem.W.Fast.te14082659384304107361]); (try rw [PySem.W.Fast.te14364793385576792824]); (try rw [PySem.W.Fast.te5160383126252970620]); (try rw [PySem.W.Fast.te10880121769531294198]); (try rw [PySem.W.Fast.te14722251495701143533]); (try rw [PySem.W.Fast.te10994771534591457954]); (try rw [PySem.W.Fast.te479339242167458305]); (try rw [PySem.W.Fast.te16090120013241838585]); (try rw [PySem.W.Fast.te2386780881361962483]); (try rw [PySem.W.Fast.te11698064438423848299]); (try rw [PySem.W.Fast.te7317090234206586261]); (try rw [PySem.W.Fast.te7369524293546568484]); (try rw [PySem.W.Fast.te821141287760084731]); (try rw [PySem.W.Fast.te3399658132070893891]); (try rw [PySem.W.Fast.te7409074990110511671]); (try rw [PySem.W.Fast.te13664370479719496447]); (try rw [PySem.W.Fast.te5991557255702980513]); (try rw [PySem.W.Fast.te3247288618530077131]); (try rw [PySem.W.Fast.te5923862056798008813]); kernel_rfl))
theorem pair {σ α β:Type} {o:Option σ} {f:σ→α} {g:σ→β} {x:α} {y:β} (a:o.map f=some x) (b:o.map g=some y):o.map (fun s=>(f s,g s))=some (x,y):=by
 cases o with
 | none=>cases a
 | some s=>cases a;cases b;rfl
theorem pFst {σ α β:Type} {o:Option σ} {f:σ→α} {g:σ→β} {x:α} {y:β} (a:o.map (fun s=>(f s,g s))=some (x,y)):o.map f=some x:=by
 cases o with
 | none=>cases a
 | some s=>cases a;rfl
theorem pSnd {σ α β:Type} {o:Option σ} {f:σ→α} {g:σ→β} {x:α} {y:β} (a:o.map (fun s=>(f s,g s))=some (x,y)):o.map g=some y:=by
 cases o with
 | none=>cases a
 | some s=>cases a;rfl
theorem left {α:Type} {Yf:Shared→α} {Ya:World→α} (go:∀ (w:World) (os:OsState),(rn w os).map (fun s=>(staticsOk (importedModules PySem.Challenge.pw_rowbetween_k21_met.main.body) (boot_heap w.params) s.heap && namesBound PySem.Challenge.pw_rowbetween_k21_met s.heap && gensDone s && laidKept (boot_heap w.params) s.heap,openSeen vw [] (importedModules PySem.Challenge.pw_rowbetween_k21_met.main.body) xt true s,Yf s))=some (true,openGood vw [],Ya w)):LeftO PySem.Challenge.pw_rowbetween_k21_met vw [] xt Yf Ya 4094 true:=fun w=>by
 obtain ⟨⟨h,gs,d,k,os⟩,e1,e2⟩:=Option.map_eq_some_iff.mp (boot_open (p:=PySem.Challenge.pw_rowbetween_k21_met) (N:=4094) (by kernel_rfl) (by decide) (fun s=>rfl) w)
 obtain ⟨rfl,rfl,rfl,rfl⟩:h=boot_heap w.params∧gs=#[]∧d=boot_drawn∧k=boot_toks:=by simpa using e2
 have size:((boot_heap w.params).isNs mainGlobals,(boot_heap w.params).objs.size,(boot_heap w.params).nsMap mainGlobals "__annotations__")=(true,11,some (Value.ref 6)):=by kernel_rfl
 simp only [Prod.mk.injEq] at size
 obtain ⟨z1,z2,z3⟩:=size
 obtain ⟨s,r1,r2⟩:=Option.map_eq_some_iff.mp (go w os)
 simp only [Prod.mk.injEq] at r2
 obtain ⟨l1,l2,l3⟩:=r2
 unfold openEnds
 rw [e1]
 show (topFrom treeTable PySem.Challenge.pw_rowbetween_k21_met w 4094 (st0 w os)).map _=_
 have t:topFrom treeTable PySem.Challenge.pw_rowbetween_k21_met w 4094 (st0 w os)=some s:=by
  unfold topFrom
  rw [show (st0 w os).heap=boot_heap w.params from rfl,z1,z2,z3]
  unfold rn at r1
  rw [r1]
  show (match _ && _ && _ && _ with | true=>_ | false=>_)=_
  rw [l1]
 rw [t]
 exact congrArg some (Prod.ext (by exact l2) (by exact l3))
theorem mJ (w:World) (os:OsState):(rn w os).map (fun s=>(staticsOk (importedModules PySem.Challenge.pw_rowbetween_k21_met.main.body) (boot_heap w.params) s.heap && namesBound PySem.Challenge.pw_rowbetween_k21_met s.heap && gensDone s && laidKept (boot_heap w.params) s.heap,seen ((recsOf vw).map (·.name)) (ownsOf vw) [] { s with gens:=#[] },s.heap.bltView,s.heap.keysOk (looseW vw []) ((recsOf vw).map (·.name)) ((litsOf vw).map (·.1)) ((clssOf vw (looseW vw [])).map (·.name)) && s.heap.accountedOkI (importedModules PySem.Challenge.pw_rowbetween_k21_met.main.body) && s.heap.isNs mainGlobals && s.heap.isNs builtinsNs && tablesOk vw s.heap && xt s && (if true then s.gens.size == 0 else !leftWithCleanup s.gens)))=some ((true),(expectedOf vw),(bltViewBooted),(true)):=by
 (refine pair ?_ (pair ?_ (pair ?_ ?_)));(focus (walk_at "hf"));(focus (walk_at "hf"));(focus (walk_at "hf"));(focus (walk_at "hf"))
theorem vG (w:World) (os:OsState):(rn w os).map (fun s=>staticsOk (importedModules PySem.Challenge.pw_rowbetween_k21_met.main.body) (boot_heap w.params) s.heap && namesBound PySem.Challenge.pw_rowbetween_k21_met s.heap && gensDone s && laidKept (boot_heap w.params) s.heap)=some (true):=(pFst (mJ w os))
theorem wp (w:World) (os:OsState):(rn w os).map (fun s=>seen ((recsOf vw).map (·.name)) (ownsOf vw) [] { s with gens:=#[] })=some (expectedOf vw):=(pFst (pSnd (mJ w os)))
theorem wP (w:World) (os:OsState):(rn w os).map (fun s=>s.heap.bltView)=some (bltViewBooted):=(pFst (pSnd (pSnd (mJ w os))))
theorem wG (w:World) (os:OsState):(rn w os).map (fun s=>s.heap.keysOk (looseW vw []) ((recsOf vw).map (·.name)) ((litsOf vw).map (·.1)) ((clssOf vw (looseW vw [])).map (·.name)) && s.heap.accountedOkI (importedModules PySem.Challenge.pw_rowbetween_k21_met.main.body) && s.heap.isNs mainGlobals && s.heap.isNs builtinsNs && tablesOk vw s.heap && xt s && (if true then s.gens.size == 0 else !leftWithCleanup s.gens))=some (true):=(pSnd (pSnd (pSnd (mJ w os))))
theorem pQ (w:World) (os:OsState):(rn w os).map (fun s=>(tabsOk vw s,pinSeenD vw (drecsOf vw) s,plainSeenE vw (looseW vw []) s))=some ((true),(pinGoodD (drecsOf vw)),(plainGoodE vw (looseW vw []))):=by
 (refine pair ?_ (pair ?_ ?_));(focus (walk_at "hf"));(focus (walk_at "hf"));(focus (walk_at "hf"))
theorem wx (w:World) (os:OsState):(rn w os).map (fun s=>tabsOk vw s)=some (true):=(pFst (pQ w os))
theorem vq (w:World) (os:OsState):(rn w os).map (fun s=>pinSeenD vw (drecsOf vw) s)=some (pinGoodD (drecsOf vw)):=(pFst (pSnd (pQ w os)))
theorem vO (w:World) (os:OsState):(rn w os).map (fun s=>plainSeenE vw (looseW vw []) s)=some (plainGoodE vw (looseW vw [])):=(pSnd (pSnd (pQ w os)))
theorem sn (w:World) (os:OsState):(rn w os).map (fun s=>(plainSeenD vw [] s,wideSeen vw s,clsSeenW vw [] s))=some ((plainGoodD vw []),(wideGood vw),(clsGoodW vw [])):=by
 (refine pair ?_ (pair ?_ ?_));(focus (walk_at "hf"));(focus (walk_at "hf"));(focus (walk_at "hf"))
theorem wY (w:World) (os:OsState):(rn w os).map (fun s=>plainSeenD vw [] s)=some (plainGoodD vw []):=(pFst (sn w os))
theorem v5 (w:World) (os:OsState):(rn w os).map (fun s=>wideSeen vw s)=some (wideGood vw):=(pFst (pSnd (sn w os)))
theorem vF (w:World) (os:OsState):(rn w os).map (fun s=>clsSeenW vw [] s)=some (clsGoodW vw []):=(pSnd (pSnd (sn w os)))
theorem wA (w:World) (os:OsState):(rn w os).map (fun s=>openSeen vw [] (importedModules PySem.Challenge.pw_rowbetween_k21_met.main.body) xt true s)=some (openGood vw []):=(pair (wp w os) (pair (wP w os) (pair (wG w os) (pair (wx w os) (pair (vq w os) (pair (vO w os) (pair (wY w os) (pair (v5 w os) (vF w os)))))))))
theorem all_a {α:Type} {Yf:Shared→α} {Ya:World→α} (h:∀ (w:World) (os:OsState),(rn w os).map (fun s=>Yf s)=some (Ya w)) (w:World) (os:OsState) :
  (rn w os).map (fun s=>(staticsOk (importedModules PySem.Challenge.pw_rowbetween_k21_met.main.body) (boot_heap w.params) s.heap && namesBound PySem.Challenge.pw_rowbetween_k21_met s.heap && gensDone s && laidKept (boot_heap w.params) s.heap,openSeen vw [] (importedModules PySem.Challenge.pw_rowbetween_k21_met.main.body) xt true s,Yf s))=some (true,openGood vw [],Ya w):=pair (vG w os) (pair (wA w os) (h w os))
end Hd
structure Hd.Facts (K:PySem.W.Frag):Prop where
 q0:DL.FdK K "common_divisor" Lw.s_common_divisor
 q1:DL.FdK K "made" Lw.s_made
 q2:DL.FdK K "plus" Lw.s_plus
 q3:DL.FdK K "times" Lw.s_times
 q4:DL.FdK K "less" Lw.s_less
 q5:DL.FdK K "is_row" Lw.s_is_row
 q6:DL.FdK K "mark_names" Lw.s_mark_names
 q7:DL.FdK K "names_of" Lw.s_names_of
 q8:DL.FdK K "tops_of" Lw.s_tops_of
 q9:DL.FdK K "top_of_sum" Lw.s_top_of_sum
 q10:DL.FdK K "row_is_so" Lw.s_row_is_so
 q11:DL.FdK K "part_is_so" Lw.s_part_is_so
 q12:DL.FdK K "is_so" Lw.s_is_so
 q13:DL.FdK K "added" Lw.s_added
 q14:DL.FdK K "weight_of" Lw.s_weight_of
 q15:DL.FdK K "alone" Lw.s_alone
 q16:DL.FdK K "shortened" Lw.s_shortened
 q17:DL.FdK K "crossed" Lw.s_crossed
 q18:DL.FdK K "without" Lw.s_without
 q19:DL.FdK K "taken_out" Lw.s_taken_out
 q20:DL.FdK K "bound_on" Lw.s_bound_on
 q21:DL.FdK K "tighter" Lw.s_tighter
 q22:DL.FdK K "number_in" Lw.s_number_in
 q23:DL.FdK K "piece_for" Lw.s_piece_for
 q24:DL.FdK K "found_back" Lw.s_found_back
 q25:DL.FdK K "solved" Lw.s_solved
 q26:DL.FdK K "met" Lw.s_met
 q27:DL.FdK K "_law_cell" Lw.s__law_cell
 q28:DL.FdK K "_law_whole" Lw.s__law_whole
 q29:DL.FdK K "_law_is_fraction" Lw.s__law_is_fraction
 q30:DL.FdK K "_law_over" Lw.s__law_over
 q31:DL.FdK K "_law_total" Lw.s__law_total
 q32:DL.FdK K "_law_row_so" Lw.s__law_row_so
 q33:DL.FdK K "_law_number" Lw.s__law_number
 q34:DL.FdK K "_law_letters" Lw.s__law_letters
 q35:DL.FdK K "_law_row" Lw.s__law_row
 q36:DL.FdK K "_law_turned" Lw.s__law_turned
 q37:DL.FdK K "_law_rows" Lw.s__law_rows
 q38:DL.FdK K "_law_point_good" Lw.s__law_point_good
 q39:DL.FdK K "_law_weights_good" Lw.s__law_weights_good
 q40:DL.FdK K "law" Lw.s_law
 z0:PySem.W.nsIn K PySem.mainGlobals "abs"=some none
 z1:PySem.W.nsIn K PySem.mainGlobals "sorted"=some none
 z2:PySem.W.nsIn K PySem.mainGlobals "zip"=some none
 z3:PySem.W.nsIn K PySem.mainGlobals "tuple"=some none
 z4:PySem.W.nsIn K PySem.mainGlobals "enumerate"=some none
 z5:PySem.W.nsIn K PySem.mainGlobals "range"=some none
 z6:PySem.W.nsIn K PySem.mainGlobals "len"=some none
 z7:PySem.W.nsIn K PySem.mainGlobals "reversed"=some none
 z8:PySem.W.nsIn K PySem.mainGlobals "dict"=some none
 z9:PySem.W.nsIn K PySem.mainGlobals "isinstance"=some none
 z10:PySem.W.nsIn K PySem.mainGlobals "bool"=some none
 z11:PySem.W.nsIn K PySem.mainGlobals "int"=some none
 z12:PySem.W.nsIn K PySem.mainGlobals "list"=some none
 z13:PySem.W.nsIn K PySem.mainGlobals "min"=some none
 g_ENDLESS:∃ (ga:PySem.Addr) (od:Option PySem.Addr) (n:Nat) (sl:Array (Option PySem.Value)),PySem.W.nsIn K PySem.mainGlobals "ENDLESS"=some (some (.ref ga))∧K.lookup ga=some ⟨.type "tuple",od,.seq #[.none,.bool false] n,sl⟩
section
open PySem PySem.W PyProof.Rows
local macro_rules | `(tactic| o_head $H) => `(tactic| (
 refine PySem.W.holds_open (r:=PySem.Challenge.rw_rowbetween_k21_met.row) (q:=Hd.vw) (loose:=[]) (Xt:=Hd.xt)
  (XP:=PySem.W.XL Hd.vw []) (Yf:=PySem.W.Hook.obs $H) (Ya:=PySem.W.Hook.val $H) (YP:=PySem.W.Hook.says $H) (N:=4094)
  ?_ (PySem.W.Hook.of $H) (PySem.W.Hook.keeps $H) (fun s e=>PySem.W.xl_of s (Bool.and_eq_true_iff.mp e).1)
  PySem.W.XL.keeps (by rfl) (by rfl) (by rfl) (fun s e=>PySem.W.recFacts_of (Bool.and_eq_true_iff.mp e).2)
  (by rfl) (by first | assumption | decide +kernel) (by decide +kernel) ⟨rfl,rfl,rfl,rfl,rfl,by decide +kernel⟩ ?_ ?_
 (focus (refine Hd.left ?_;refine Hd.all_a ?_;(focus (intro w os;unfold Hd.rn Hd.st0;(try rw [PySem.W.Fast.te14082659384304107361]);(try rw [PySem.W.Fast.te14364793385576792824]);(try rw [PySem.W.Fast.te5160383126252970620]);(try rw [PySem.W.Fast.te10880121769531294198]);(try rw [PySem.W.Fast.te14722251495701143533]);(try rw [PySem.W.Fast.te10994771534591457954]);(try rw [PySem.W.Fast.te479339242167458305]);(try rw [PySem.W.Fast.te16090120013241838585]);(try rw [PySem.W.Fast.te2386780881361962483]);(try rw [PySem.W.Fast.te11698064438423848299]);(try rw [PySem.W.Fast.te7317090234206586261]);(try rw [PySem.W.Fast.te7369524293546568484]);(try rw [PySem.W.Fast.te821141287760084731]);(try rw [PySem.W.Fast.te3399658132070893891]);(try rw [PySem.W.Fast.te7409074990110511671]);(try rw [PySem.W.Fast.te13664370479719496447]);(try rw [PySem.W.Fast.te5991557255702980513]);(try rw [PySem.W.Fast.te3247288618530077131]);(try rw [PySem.W.Fast.te5923862056798008813]);kernel_rfl))))
 (focus w_witness2)))
set_option maxRecDepth 100000 in
set_option maxHeartbeats 0 in
theorem Hd.half (F:∀ (YP:World→Heap→Prop) (d:DefRec) (K:Params→PySem.W.Frag),(∀ (w:World) (h:Heap),YP w h→(K w.params).In h)→d.params.defaults=[]→d.name="law"→(∀ w:World,Hd.Facts (K w.params))→PySem.W.WalkO Hd.vw [] (PySem.W.XL Hd.vw []) YP PySem.Challenge.rw_rowbetween_k21_met.row.toRowW d [] (fun f vs=>PySem.call f vs)):PySem.Challenge.rw_rowbetween_k21_met.Holds:=by
 w_on;o_law;k_head
 k_fill
 refine F _ _ _ (fun w h Y=>PySem.W.kIn_of Y) rfl rfl fun w=>?_
 refine' ⟨?_,?_,?_,?_,?_,?_,?_,?_,?_,?_,?_,?_,?_,?_,?_,?_,?_,?_,?_,?_,?_,?_,?_,?_,?_,?_,?_,?_,?_,?_,?_,?_,?_,?_,?_,?_,?_,?_,?_,?_,?_,?_,?_,?_,?_,?_,?_,?_,?_,?_,?_,?_,?_,?_,?_,?_⟩
 ·exact⟨⟨_,_,_,_,_,_,_,_,_,_,by k_is,by k_is,by k_is,by k_is⟩⟩
 ·exact⟨⟨_,_,_,_,_,_,_,_,_,_,by k_is,by k_is,by k_is,by k_is⟩⟩
 ·exact⟨⟨_,_,_,_,_,_,_,_,_,_,by k_is,by k_is,by k_is,by k_is⟩⟩
 ·exact⟨⟨_,_,_,_,_,_,_,_,_,_,by k_is,by k_is,by k_is,by k_is⟩⟩
 ·exact⟨⟨_,_,_,_,_,_,_,_,_,_,by k_is,by k_is,by k_is,by k_is⟩⟩
 ·exact⟨⟨_,_,_,_,_,_,_,_,_,_,by k_is,by k_is,by k_is,by k_is⟩⟩
 ·exact⟨⟨_,_,_,_,_,_,_,_,_,_,by k_is,by k_is,by k_is,by k_is⟩⟩
 ·exact⟨⟨_,_,_,_,_,_,_,_,_,_,by k_is,by k_is,by k_is,by k_is⟩⟩
 ·exact⟨⟨_,_,_,_,_,_,_,_,_,_,by k_is,by k_is,by k_is,by k_is⟩⟩
 ·exact⟨⟨_,_,_,_,_,_,_,_,_,_,by k_is,by k_is,by k_is,by k_is⟩⟩
 ·exact⟨⟨_,_,_,_,_,_,_,_,_,_,by k_is,by k_is,by k_is,by k_is⟩⟩
 ·exact⟨⟨_,_,_,_,_,_,_,_,_,_,by k_is,by k_is,by k_is,by k_is⟩⟩
 ·exact⟨⟨_,_,_,_,_,_,_,_,_,_,by k_is,by k_is,by k_is,by k_is⟩⟩
 ·exact⟨⟨_,_,_,_,_,_,_,_,_,_,by k_is,by k_is,by k_is,by k_is⟩⟩
 ·exact⟨⟨_,_,_,_,_,_,_,_,_,_,by k_is,by k_is,by k_is,by k_is⟩⟩
 ·exact⟨⟨_,_,_,_,_,_,_,_,_,_,by k_is,by k_is,by k_is,by k_is⟩⟩
 ·exact⟨⟨_,_,_,_,_,_,_,_,_,_,by k_is,by k_is,by k_is,by k_is⟩⟩
 ·exact⟨⟨_,_,_,_,_,_,_,_,_,_,by k_is,by k_is,by k_is,by k_is⟩⟩
 ·exact⟨⟨_,_,_,_,_,_,_,_,_,_,by k_is,by k_is,by k_is,by k_is⟩⟩
 ·exact⟨⟨_,_,_,_,_,_,_,_,_,_,by k_is,by k_is,by k_is,by k_is⟩⟩
 ·exact⟨⟨_,_,_,_,_,_,_,_,_,_,by k_is,by k_is,by k_is,by k_is⟩⟩
 ·exact⟨⟨_,_,_,_,_,_,_,_,_,_,by k_is,by k_is,by k_is,by k_is⟩⟩
 ·exact⟨⟨_,_,_,_,_,_,_,_,_,_,by k_is,by k_is,by k_is,by k_is⟩⟩
 ·exact⟨⟨_,_,_,_,_,_,_,_,_,_,by k_is,by k_is,by k_is,by k_is⟩⟩
 ·exact⟨⟨_,_,_,_,_,_,_,_,_,_,by k_is,by k_is,by k_is,by k_is⟩⟩
 ·exact⟨⟨_,_,_,_,_,_,_,_,_,_,by k_is,by k_is,by k_is,by k_is⟩⟩
 ·exact⟨⟨_,_,_,_,_,_,_,_,_,_,by k_is,by k_is,by k_is,by k_is⟩⟩
 ·exact⟨⟨_,_,_,_,_,_,_,_,_,_,by k_is,by k_is,by k_is,by k_is⟩⟩
 ·exact⟨⟨_,_,_,_,_,_,_,_,_,_,by k_is,by k_is,by k_is,by k_is⟩⟩
 ·exact⟨⟨_,_,_,_,_,_,_,_,_,_,by k_is,by k_is,by k_is,by k_is⟩⟩
 ·exact⟨⟨_,_,_,_,_,_,_,_,_,_,by k_is,by k_is,by k_is,by k_is⟩⟩
 ·exact⟨⟨_,_,_,_,_,_,_,_,_,_,by k_is,by k_is,by k_is,by k_is⟩⟩
 ·exact⟨⟨_,_,_,_,_,_,_,_,_,_,by k_is,by k_is,by k_is,by k_is⟩⟩
 ·exact⟨⟨_,_,_,_,_,_,_,_,_,_,by k_is,by k_is,by k_is,by k_is⟩⟩
 ·exact⟨⟨_,_,_,_,_,_,_,_,_,_,by k_is,by k_is,by k_is,by k_is⟩⟩
 ·exact⟨⟨_,_,_,_,_,_,_,_,_,_,by k_is,by k_is,by k_is,by k_is⟩⟩
 ·exact⟨⟨_,_,_,_,_,_,_,_,_,_,by k_is,by k_is,by k_is,by k_is⟩⟩
 ·exact⟨⟨_,_,_,_,_,_,_,_,_,_,by k_is,by k_is,by k_is,by k_is⟩⟩
 ·exact⟨⟨_,_,_,_,_,_,_,_,_,_,by k_is,by k_is,by k_is,by k_is⟩⟩
 ·exact⟨⟨_,_,_,_,_,_,_,_,_,_,by k_is,by k_is,by k_is,by k_is⟩⟩
 ·exact⟨⟨_,_,_,_,_,_,_,_,_,_,by k_is,by k_is,by k_is,by k_is⟩⟩
 ·k_is
 ·k_is
 ·k_is
 ·k_is
 ·k_is
 ·k_is
 ·k_is
 ·k_is
 ·k_is
 ·k_is
 ·k_is
 ·k_is
 ·k_is
 ·k_is
 ·exact⟨_,_,_,_,by k_is,by k_is⟩
end
namespace L2
open PySem PySem.Spec PyProof.Rows
abbrev Key:=Sum Int Str
def lg:Key→Value→Bool
 | .inl k,v=>Value.isInt k v
 | .inr x,v=>Value.isStrOf x v
def keyH (w:World):Key→Int
 | .inl k=>hashInt k
 | .inr x=>hashStr w x
theorem aY:∀ {k:Key} {v:Value},lg k v=true→(∃ i t,k=Sum.inl i∧v=Value.int i t)∨(∃ x t,k=Sum.inr x∧v=Value.str x t)
 | .inl i,v,h=>by
  obtain ⟨t,e⟩:=Value.isInt_shape (k:=i) (v:=v) h
  exact .inl ⟨i,t,rfl,e⟩
 | .inr x,v,h=>by
  obtain ⟨t,e⟩:=Value.isStrOf_shape (x:=x) (v:=v) h
  exact .inr ⟨x,t,rfl,e⟩
theorem rR (i:Int) (t:Tok):lg (.inl i) (.int i t)=true:=by simp [lg,Value.isInt]
theorem qt (x:Str) (t:Tok):lg (.inr x) (.str x t)=true:=by simp [lg,Value.isStrOf]
theorem yK (a b:Int):decide ((Sum.inl a:Key)=Sum.inl b)=(a == b):=by
 by_cases e:a=b
 ·subst e;simp
 ·have h:¬ (Sum.inl a:Key)=Sum.inl b:=fun q=>e (Sum.inl.inj q)
  rw [decide_eq_false h]
  exact (beq_eq_false_iff_ne.mpr e).symm
theorem zH (a b:Str):decide ((Sum.inr a:Key)=Sum.inr b)=decide (a=b):=by
 by_cases e:a=b
 ·subst e;simp
 ·have h:¬ (Sum.inr a:Key)=Sum.inr b:=fun q=>e (Sum.inr.inj q)
  rw [decide_eq_false h,decide_eq_false e]
theorem yq (a:Int) (b:Str):decide ((Sum.inl a:Key)=Sum.inr b)=false:=decide_eq_false (fun q=>nomatch q)
theorem yi (a:Str) (b:Int):decide ((Sum.inr a:Key)=Sum.inl b)=false:=decide_eq_false (fun q=>nomatch q)
def aZ (prog:Program) (w:World):PySem.KeyKind prog w Key where
 is:=lg
 hash:=keyH w
 inj:=fun v a b ha hb=>by
  rcases aY ha with ⟨i,t,rfl,rfl⟩ | ⟨x,t,rfl,rfl⟩
  ·rcases aY hb with ⟨j,u,rfl,e⟩ | ⟨y,u,rfl,e⟩
   ·injection e with e1 _;rw [e1]
   ·exact nomatch e
  ·rcases aY hb with ⟨j,u,rfl,e⟩ | ⟨y,u,rfl,e⟩
   ·exact nomatch e
   ·injection e with e1 _;rw [e1]
 byValue:=fun k v h=>by
  rcases aY h with ⟨i,t,rfl,rfl⟩ | ⟨x,t,rfl,rfl⟩<;>rfl
 pyHash:=fun hv h=>by
  rcases aY hv with ⟨i,t,rfl,rfl⟩ | ⟨x,t,rfl,rfl⟩
  ·exact wpAny_pyHash_int h
  ·exact wpAny_pyHash_str h
 eqBool:=fun hu hv h=>by
  rcases aY hu with ⟨i,t,rfl,rfl⟩ | ⟨x,t,rfl,rfl⟩
  ·rcases aY hv with ⟨j,u,rfl,rfl⟩ | ⟨y,u,rfl,rfl⟩
   ·rw [yK] at h;exact wpAny_eqBool_int h
   ·rw [yq] at h;exact SeqAt.EqAt.int_str i t y u _ _ _ _ h
  ·rcases aY hv with ⟨j,u,rfl,rfl⟩ | ⟨y,u,rfl,rfl⟩
   ·rw [yi] at h;exact SeqAt.EqAt.str_int x t j u _ _ _ _ h
   ·rw [zH] at h;exact wpAny_eqBool_str h
 «strs»:=fun k x t v h=>by
  rcases aY h with ⟨i,u,rfl,e⟩ | ⟨y,u,rfl,e⟩
  ·exact nomatch e
  ·injection e with e1 _
   subst e1
   cases v<;>rfl
theorem mi (prog:Program) (w:World) (i:Int) (t:Tok):(aZ prog w).is (.inl i) (.int i t)=true:=rR i t
theorem lU (prog:Program) (w:World) (x:Str) (t:Tok):(aZ prog w).is (.inr x) (.str x t)=true:=qt x t
end L2
namespace L2
open PySem PySem.Spec PyProof.Rows
inductive V where
 | non | bl (b:Bool) | int (i:Int) | str (x:Str) | byt (b:Array UInt8) | flt (b:UInt64) | ref (a:Addr) | ty (n:String)
 deriving DecidableEq
def RelV:V→Value→Prop
 | .non,u=>u=Value.none
 | .bl b,u=>u=Value.bool b
 | .int i,u=>∃ t,u=Value.int i t
 | .str x,u=>∃ t,u=Value.str x t
 | .byt b,u=>∃ t,u=Value.bytes b t
 | .flt b,u=>∃ t,u=Value.float b t
 | .ref a,u=>u=Value.ref a
 | .ty n,u=>u=Value.type n
abbrev Vals:List V→List Value→Prop:=Paired RelV
theorem Vals.length {xs:List V} {us:List Value} (r:Vals xs us):xs.length=us.length:=Paired.length r
theorem Vals.get:∀ {xs:List V} {us:List Value} {i:Nat} {x:V},Vals xs us→xs[i]?=some x→∃ u,us[i]?=some u∧RelV x u
 | _,_,_,_,.nil,e=>by simp at e
 | _,_,0,_,.cons r _,e=>by simp at e;subst e;exact⟨_,rfl,r⟩
 | _,_,i + 1,x,.cons _ t,e=>by
  obtain ⟨u,h1,h2⟩:=Vals.get (i:=i) (x:=x) t (by simpa using e)
  exact⟨u,by simpa using h1,h2⟩
theorem Vals.set {x:V} {u:Value} (r:RelV x u):∀ {xs:List V} {us:List Value} (i:Nat),Vals xs us→Vals (xs.set i x) (us.set i u)
 | _,_,_,.nil=>.nil
 | _,_,0,.cons _ t=>.cons r t
 | _,_,i + 1,.cons q t=>.cons q (Vals.set r i t)
theorem Vals.append:∀ {xs ys:List V} {us ws:List Value},Vals xs us→Vals ys ws→Vals (xs++ys) (us++ws)
 | _,_,_,_,.nil,s=>s
 | _,_,_,_,.cons r t,s=>.cons r (Vals.append t s)
theorem Vals.take:∀ {xs:List V} {us:List Value} (n:Nat),Vals xs us→Vals (xs.take n) (us.take n)
 | _,_,0,_=>.nil
 | _,_,_ + 1,.nil=>.nil
 | _,_,n + 1,.cons r t=>.cons r (Vals.take n t)
theorem Vals.drop:∀ {xs:List V} {us:List Value} (n:Nat),Vals xs us→Vals (xs.drop n) (us.drop n)
 | _,_,0,r=>r
 | _,_,_ + 1,.nil=>.nil
 | _,_,n + 1,.cons _ t=>Vals.drop n t
def RelO:Option V→Option Value→Prop
 | some v,some u=>RelV v u
 | none,none=>True
 | _,_=>False
def KV {κ:Type}:List (κ×V)→List (κ×Value)→Prop:=Paired fun (p:κ×V) (q:κ×Value)=>p.1=q.1∧RelV p.2 q.2
def kV:Key→V
 | .inl i=>.int i
 | .inr x=>.str x
inductive HO where
 | lst (xs:List V)
 | tup (xs:List V)
 | dK (kvs:List (Key×V)) | dT (kvs:List (List Key×V))
 | set (S:Int→Bool) (n:Nat)
 | ins (C dx:Addr) (fs:List (Str×V))
 | own (x:Addr)
 | xd (fs:List (Str×V))
 | met (f x:Addr)
 | rng (lo hi:Int)
 | frz (o:Obj) (u:HO)
 | tbl (ps:Array Value)
 | ext (φ:Heap→Prop)
abbrev Hp:=Addr→Option HO
def upd (H:Hp) (a:Addr) (o:HO):Hp:=fun b=>if b=a then some o else H b
theorem aq {H:Hp} {a:Addr} {o:HO}:upd H a o a=some o:=by unfold upd;rw [if_pos rfl]
theorem aE {H:Hp} {a b:Addr} {o:HO} (h:b≠a):upd H a o b=H b:=by unfold upd;rw [if_neg h]
theorem AS {H:Hp} {a b:Addr} {o u:HO} (h:H a=some o) (h':H b=some u) (d:o≠u):a≠b:=by
 intro e;subst e;rw [h] at h';exact d (Option.some.inj h')
theorem cy {H:Hp} {a b:Addr} {o:HO} (h:H a=some o) (h':H b=none):a≠b:=by
 intro e;subst e;rw [h] at h';cases h'
section
variable (P:Program) (w:World)
def bH (H:Hp) (h:Heap) (a:Addr):HO→Prop
 | .lst xs=>xs.length≤sizeLine∧∃ (its:List Value) (n:Nat),Vals xs its∧h.get? a=some { cls:=.type "list",data:=.seq its.toArray n }
 | .tup xs=>xs.length≤sizeLine∧∃ its:List Value,Vals xs its∧IsTup h a its.toArray
 | .dK kvs=>kvs.length≤sizeLine∧(a == sysModules)=false∧∃ vs,KV kvs vs∧h.DictOf (aZ P w) a vs
 | .dT kvs=>kvs.length≤sizeLine∧(a == sysModules)=false∧∃ xs:List (List Key×Addr×Value),
   Paired (fun (p:List Key×V) (q:List Key×Addr×Value)=>p.1=q.1∧H q.2.1=some (.tup (p.1.map kV))∧RelV p.2 q.2.2) kvs xs ∧
   ∃ o es ep,h.get? a=some o∧o.ExactDict∧o.data=.dict es ep∧es.toList=xs.map (entryOfKey (tupleKind (aZ P w)))∧(xs.map (·.1)).Nodup
 | .set S n=>h.SetOf (intKind P w) a S n
 | .ins C dx fs=>H dx=some (.own a)∧fs.length≤1000∧dx≠a∧h.get? a=some (PySem.W.instObj C dx) ∧
   ∃ mA,h.Ns1 dx mA∧(∀ f,RelO (fs.lookup f) (mA f))∧PySem.Within mA (fs.map (·.1))
 | .own _=>∃ o,h.get? a=some o
 | .xd fs=>∃ mA,h.Ns1 a mA∧∀ f,RelO (fs.lookup f) (mA f)
 | .rng lo hi=>∃ t u v,h.get? a=some { cls:=.type "range",data:=.fields #[.int lo t,.int hi u,.int 1 v] }
 | .frz o u=>h.get? a=some o∧bH H h a u
 | .tbl ps=>h.get? a=some { cls:=.none,data:=.fields ps }
 | .met f x=>h.get? a=some (PySem.W.methodObj (.ref f) (.ref x))
 | .ext φ=>φ h∧(∃ o,h.get? a=some o)∧∀ h1 h2:Heap,φ h1→(∀ o,h1.get? a=some o→h2.get? a=some o)→φ h2
def HOk (H:Hp) (h:Heap):Prop:=∀ a o,H a=some o→bH P w H h a o
end
section
variable {P:Program} {w:World} {H H':Hp} {h h':Heap} {a:Addr} {o:HO}
theorem bH.lt (x:bH P w H h a o):a < h.objs.size:=by
 cases o with
 | lst xs=>obtain ⟨_,_,_,_,e⟩:=x;exact Heap.lt_size e
 | tup xs=>obtain ⟨_,_,_,p⟩:=x;exact p.lt
 | dK kvs=>obtain ⟨_,_,_,_,o,_,_,e,_⟩:=x;exact Heap.lt_size e
 | dT kvs=>obtain ⟨_,_,_,_,o,_,_,e,_⟩:=x;exact Heap.lt_size e
 | set S n=>obtain ⟨o,_,_,_,e,_⟩:=x;exact Heap.lt_size e
 | ins C dx fs=>obtain ⟨_,_,_,e,_⟩:=x;exact Heap.lt_size e
 | own y=>obtain ⟨_,e⟩:=x;exact Heap.lt_size e
 | xd fs=>obtain ⟨_,⟨_,_,_,e,_⟩,_⟩:=x;exact Heap.lt_size e
 | rng lo hi=>obtain ⟨_,_,_,e⟩:=x;exact Heap.lt_size e
 | frz ob u=>obtain ⟨e,_⟩:=x;exact Heap.lt_size e
 | tbl ps=>exact Heap.lt_size (show h.get? a=some _ from x)
 | met f y=>exact Heap.lt_size (show h.get? a=some _ from x)
 | ext φ=>obtain ⟨_,⟨_,e⟩,_⟩:=x;exact Heap.lt_size e
theorem Paired.mapP {α β:Type} {F G:α→β→Prop}:∀ {l₁:List α} {l₂:List β},Paired F l₁ l₂→(∀ a b,F a b→G a b)→Paired G l₁ l₂
 | _,_,.nil,_=>.nil
 | _,_,.cons r t,f=>.cons (f _ _ r) (Paired.mapP t f)
theorem bH.stay (x:bH P w H h a o) (k:∀ b u,(b=a∨H b=some (.own a))→h.get? b=some u→h'.get? b=some u)
  (ho:∀ b,H b=some (.own a)→H' b=some (.own a)) (ht:∀ b xs,H b=some (.tup xs)→H' b=some (.tup xs)):bH P w H' h' a o:=by
 induction o with
 | lst xs=>obtain ⟨z,its,n,r,e⟩:=x;exact⟨z,its,n,r,k _ _ (.inl rfl) e⟩
 | tup xs=>obtain ⟨z,its,r,ob,e,c⟩:=x;exact⟨z,its,r,ob,k _ _ (.inl rfl) e,c⟩
 | dK kvs=>obtain ⟨z,y,vs,r,ob,es,ep,e,c⟩:=x;exact⟨z,y,vs,r,ob,es,ep,k _ _ (.inl rfl) e,c⟩
 | dT kvs =>
  obtain ⟨z,y,xs,r,ob,es,ep,e,c⟩:=x
  exact⟨z,y,xs,Paired.mapP r fun p q z=>⟨z.1,ht _ _ z.2.1,z.2.2⟩,ob,es,ep,k _ _ (.inl rfl) e,c⟩
 | set S n=>obtain ⟨ob,es,ep,t,e,c⟩:=x;exact⟨ob,es,ep,t,k _ _ (.inl rfl) e,c⟩
 | ins C dx fs =>
  obtain ⟨d,z,ne,e,mA,⟨od,es,ep,e2,c⟩,r⟩:=x
  exact⟨ho _ d,z,ne,k _ _ (.inl rfl) e,mA,⟨od,es,ep,k _ _ (.inr d) e2,c⟩,r⟩
 | own y=>obtain ⟨ob,e⟩:=x;exact⟨ob,k _ _ (.inl rfl) e⟩
 | xd fs=>obtain ⟨mA,⟨od,es,ep,e,c⟩,r⟩:=x;exact⟨mA,⟨od,es,ep,k _ _ (.inl rfl) e,c⟩,r⟩
 | rng lo hi=>obtain ⟨t,u,v,e⟩:=x;exact⟨t,u,v,k _ _ (.inl rfl) e⟩
 | frz ob u ih=>obtain ⟨e,q⟩:=x;exact⟨k _ _ (.inl rfl) e,ih q⟩
 | tbl ps =>
  have e:h.get? a=some { cls:=.none,data:=.fields ps }:=x
  show h'.get? a=some { cls:=.none,data:=.fields ps }
  exact k a _ (.inl rfl) e
 | met f y =>
  have e:h.get? a=some (PySem.W.methodObj (.ref f) (.ref y)):=x
  show h'.get? a=some (PySem.W.methodObj (.ref f) (.ref y))
  exact k a _ (.inl rfl) e
 | ext φ=>obtain ⟨p,⟨o,e⟩,st⟩:=x;exact⟨st _ _ p fun o q=>k _ _ (.inl rfl) q,⟨o,k _ _ (.inl rfl) e⟩,st⟩
theorem HOk.lt (x:HOk P w H h) (e:H a=some o):a < h.objs.size:=(x a o e).lt
theorem HOk.fresh (x:HOk P w H h) (e:h.objs.size≤a):H a=none:=by
 cases q:H a with
 | none=>rfl
 | some u=>exact absurd (Nat.lt_of_lt_of_le (x.lt q) e) (Nat.lt_irrefl _)
theorem HOk.kept (x:HOk P w H h) (k:∀ b u,h.get? b=some u→h'.get? b=some u):HOk P w H h':=fun a o e =>
 (x a o e).stay (fun b u _ q=>k b u q) (fun _ q=>q) fun _ _ q=>q
theorem HOk.laid (x:HOk P w H h) (k:∀ b u,h.get? b=some u→h'.get? b=some u) (hp:h.objs.size≤a) (new:bH P w (upd H a o) h' a o):HOk P w (upd H a o) h':=fun b u e=>by
 have hn:=x.fresh hp
 by_cases hb:b=a
 ·subst hb;rw [aq] at e;cases e;exact new
 ·rw [aE hb] at e
  exact (x b u e).stay (fun c v _ q=>k c v q) (fun c q=>by rw [aE (cy q hn)];exact q) fun c xs q=>by rw [aE (cy q hn)];exact q
end
def Rd (H:Hp) (a:Addr) (u:HO):Prop:=H a=some u∨∃ o,H a=some (.frz o u)
theorem Rd.of {H:Hp} {a:Addr} {u:HO} (h:H a=some u):Rd H a u:=.inl h
theorem Rd.ok {P:Program} {w:World} {H:Hp} {h:Heap} {a:Addr} {u:HO} (r:Rd H a u) (x:HOk P w H h):bH P w H h a u:=by
 rcases r with r | ⟨o,r⟩
 ·exact x a u r
 ·obtain ⟨_,q⟩:=x a _ r
  exact q
def Mut:Option HO→Prop
 | some (.lst _)=>True
 | some (.dK _)=>True
 | some (.dT _)=>True
 | some (.set _ _)=>True
 | some (.ins _ _ _)=>True
 | some (.ext _)=>True
 | _=>False
section
variable {P:Program} {w:World} {H:Hp} {h h':Heap} {x e:Addr} {o':HO}
theorem HOk.write (ok:HOk P w H h) (mu:Mut (H x)) (he:e=x∨H e=some (.own x)) (k:∀ b u,b≠e→h.get? b=some u→h'.get? b=some u) (heo:∃ u,h'.get? e=some u)
  (new:bH P w (upd H x o') h' x o'):HOk P w (upd H x o') h':=fun b u q=>by
 have nown:∀ c y,H c=some (.own y)→c≠x:=fun c y r z=>by subst z;rw [r] at mu;exact mu
 have ntup:∀ c xs,H c=some (.tup xs)→c≠x:=fun c xs r z=>by subst z;rw [r] at mu;exact mu
 by_cases hb:b=x
 ·subst hb;rw [aq] at q;cases q;exact new
 ·rw [aE hb] at q
  by_cases hbe:b=e
  ·have q':H b=some (.own x):=by
    rcases he with z | z
    ·exact absurd (hbe.trans z) hb
    ·rw [hbe];exact z
   rw [q] at q';cases q'
   obtain ⟨v,hv⟩:=heo
   exact⟨v,by rw [hbe];exact hv⟩
  ·refine (ok b u q).stay (fun c v hc r=>k c v ?_ r) (fun c r=>by rw [aE (nown c b r)];exact r) fun c xs r=>by rw [aE (ntup c xs r)];exact r
   rcases hc with rfl | hc
   ·exact hbe
   ·rintro rfl
    rcases he with z | z
    ·exact nown c b hc z
    ·rw [hc] at z;cases z;exact hb rfl
end
structure Un (fs ex:List Addr) (H H':Hp) (h h':Heap):Prop where
 keep:∀ b o,h.get? b=some o→H b=none→b∉fs→b∉ex→h'.get? b=some o
 slot:∀ b o,h.get? b=some o→H b=none→b∈fs→b∉ex→∃ sl,h'.get? b=some { o with slots:=sl }
 free:∀ b o,h.get? b=some o→H b=none→b∉ex→H' b=none
 there:∀ b o,h.get? b=some o→b∉ex→∃ o',h'.get? b=some o'
 tups:∀ b xs,H b=some (.tup xs)→H' b=some (.tup xs)
 frzs:∀ b o u,H b=some (.frz o u)→H' b=some (.frz o u)
 tbls:∀ b ps,H b=some (.tbl ps)→∃ more,H' b=some (.tbl (ps++more))
section
variable {fs fs' ex ex':List Addr} {H H1 H2:Hp} {h h1 h2 h':Heap} {a x e:Addr} {o:HO}
theorem Un.any (u:Un fs ex H H1 h h1) {b:Addr} {ob:Obj} (q:h.get? b=some ob) (n:H b=none) (hx:b∉ex):∃ sl,h1.get? b=some { ob with slots:=sl }:=by
 by_cases hb:b∈fs
 ·exact u.slot b ob q n hb hx
 ·exact⟨ob.slots,u.keep b ob q n hb hx⟩
theorem Un.trans (a:Un fs ex H H1 h h1) (b:Un fs ex H1 H2 h1 h2):Un fs ex H H2 h h2 where
 keep:=fun c ob q n hc hx=>b.keep c ob (a.keep c ob q n hc hx) (a.free c ob q n hx) hc hx
 slot:=fun c ob q n hc hx=>by
  obtain ⟨sl,e1⟩:=a.slot c ob q n hc hx
  obtain ⟨sl',e2⟩:=b.slot c _ e1 (a.free c ob q n hx) hc hx
  exact⟨sl',e2⟩
 free:=fun c ob q n hx=>by
  obtain ⟨o',e1⟩:=a.there c ob q hx
  exact b.free c o' e1 (a.free c ob q n hx) hx
 there:=fun c ob q hx=>by
  obtain ⟨o',e1⟩:=a.there c ob q hx
  exact b.there c o' e1 hx
 tups:=fun c xs q=>b.tups c xs (a.tups c xs q)
 frzs:=fun c ob xs q=>b.frzs c ob xs (a.frzs c ob xs q)
 tbls:=fun c ps q=>by
  obtain ⟨m1,e1⟩:=a.tbls c ps q
  obtain ⟨m2,e2⟩:=b.tbls c _ e1
  exact⟨m1++m2,by rw [e2,Array.append_assoc]⟩
theorem Un.kept (k:∀ b u,h.get? b=some u→h'.get? b=some u):Un fs ex H H h h' :=
 ⟨fun b ob q _ _ _=>k b ob q,fun b ob q _ _ _=>⟨ob.slots,k b ob q⟩,fun _ _ _ n _=>n,fun b ob q _=>⟨ob,k b ob q⟩,fun _ _ q=>q,fun _ _ _ q=>q,fun _ ps q=>⟨#[],by rw [q];simp⟩⟩
theorem Un.refl:Un fs ex H H h h:=Un.kept fun _ _ q=>q
theorem Un.laid (k:∀ b u,h.get? b=some u→h'.get? b=some u) (hp:h.objs.size≤a) (hn:H a=none):Un fs ex H (upd H a o) h h' where
 keep:=fun b u q _ _ _=>k b u q
 slot:=fun b u q _ _ _=>⟨u.slots,k b u q⟩
 free:=fun b u q n _=>by rw [aE (Nat.ne_of_lt (Nat.lt_of_lt_of_le (Heap.lt_size q) hp))];exact n
 there:=fun b u q _=>⟨u,k b u q⟩
 tups:=fun b xs q=>by rw [aE (cy q hn)];exact q
 frzs:=fun b u xs q=>by rw [aE (cy q hn)];exact q
 tbls:=fun b ps q=>⟨#[],by rw [aE (cy q hn),q];simp⟩
theorem Un.write (mu:Mut (H x)) (he:e=x∨H e=some (.own x)) (k:∀ b u,b≠e→h.get? b=some u→h'.get? b=some u) (heo:∃ u,h'.get? e=some u):Un fs ex H (upd H x o) h h':=by
 have hx:∀ b,H b=none→b≠x:=fun b n z=>by subst z;rw [n] at mu;exact mu
 have hb:∀ b,H b=none→b≠e:=fun b n z=>by
  subst z
  rcases he with r | r
  ·exact hx b n r
  ·rw [n] at r;cases r
 have hm:∀ b u,H b=some u→¬ Mut (some u)→b≠x:=fun b u q nm z=>by subst z;rw [q] at mu;exact nm mu
 refine⟨fun b u q n _ _=>k b u (hb b n) q,fun b u q n _ _=>⟨u.slots,k b u (hb b n) q⟩,fun b u q n _=>by rw [aE (hx b n)];exact n,fun b u q _=>?_,
  fun b xs q=>by rw [aE (hm b _ q fun z=>z)];exact q,fun b u xs q=>by rw [aE (hm b _ q fun z=>z)];exact q,fun b ps q=>⟨#[],by rw [aE (hm b _ q fun z=>z),q];simp⟩⟩
 by_cases hbe:b=e
 ·subst hbe;exact heo
 ·exact⟨u,k b u hbe q⟩
theorem Un.mono (u:Un fs ex H H1 h h1) (hs:∀ b∈fs,b∈fs') (hx:∀ b∈ex,b∈ex'):Un fs' ex' H H1 h h1 :=
 ⟨fun b ob q n hb he=>u.keep b ob q n (fun z=>hb (hs b z)) fun z=>he (hx b z),fun _ _ q n _ he=>u.any q n fun z=>he (hx _ z),fun b ob q n he=>u.free b ob q n fun z=>he (hx b z),fun b ob q he=>u.there b ob q fun z=>he (hx b z),u.tups,u.frzs,u.tbls⟩
end
def trk (h:Heap) (H:Hp):List Addr:=(List.range h.objs.size).filter fun a=>(H a).isSome
def hidT (h:Heap) (H:Hp):Heap:=PySem.W.hideAll h (trk h H)
theorem qJ (h:Heap) (H:Hp):(hidT h H).objs.size=h.objs.size:=PySem.W.hideAll_size _ _
theorem ua {h:Heap} {H:Hp} {b:Addr} {o:Obj} (e:h.get? b=some o) (n:H b=none):(hidT h H).get? b=some o :=
 PySem.W.hideAll_get _ e fun hm=>by
  have q:(H b).isSome=true:=(List.mem_filter.mp hm).2
  rw [n] at q;simp at q
theorem xo {h:Heap} {H:Hp} {b:Addr} {o:Obj} (e:(hidT h H).get? b=some o):h.get? b=some o∧H b=none:=by
 have e':h.get? b=some o:=PySem.W.of_hideAll (trk h H) e
 refine⟨e',?_⟩
 cases q:H b with
 | none=>rfl
 | some x =>
  have hm:b∈trk h H:=List.mem_filter.mpr ⟨List.mem_range.mpr (Heap.lt_size e'),by simp [q]⟩
  have z:(hidT h H).get? b=none:=PySem.W.hideAll_none (trk h H) hm
  rw [z] at e;cases e
def xn (g h:Heap) (L:Addr):List (Addr×Obj):=(List.range h.objs.size).filterMap fun a=>if a=L∨(g.get? a).isSome=true then none else (h.get? a).map fun o=>(a,o)
def rest (g h:Heap) (L d:Addr):List (Addr×Obj):=(xn g h L).filter fun p=>decide (p.1≠d)
end L2
namespace L2
open PySem PySem.Spec PyProof.Rows
structure Mod (K:PySem.W.Frag) (mg:Str→Option Value) (base:Heap):Prop where
 kin:K.In base
 glob:base.Ns mainGlobals mg
 blt:∃ mb,base.Ns builtinsNs mb∧∀ x:Str,x≠"__name__"→mb x=bootBuiltins x
 nolimit:base.NoLimit
structure Cx where
 prog:Program
 w:World
 K:PySem.W.Frag
 mg:Str→Option Value
 base:Heap
 A:Around
 N:List Str
 s₀:Shared
 H₀:Hp
 env:Env
 outer:List Env
 stack:List Env
 ex:List Addr
 fn:Str→Bool
 calm:Bool
 pn:List (Addr×Obj)
 xe:Value→Shared→Prop
def frs (l:List Env):List Addr:=l.filterMap (·.frame)
abbrev Cx.fs (X:Cx):List Addr:=frs X.outer
def Vis (sc:Scope) (x:Str):Prop:=sc.names.lookup x=some .local∨sc.names.lookup x=some .cell∨sc.names.lookup x=some .free
def Loc (sc:Scope) (x:Str):Prop:=sc.names.lookup x=some .local∨sc.names.lookup x=some .cell
def Look (env:Env) (h:Heap) (m:Str→Option Value) (x:Str) (u:Value):Prop :=
 (env.kindOf x=some .local∧m x=some u)∨((env.kindOf x=some .cell∨env.kindOf x=some .free)∧∃ c,env.cells.lookup x=some c∧h.IsCell c (some u))
structure Cx.Ok (X:Cx):Prop where
 mod:Mod X.K X.mg X.base
 kind:X.env.scope.kind=.function
 glob:X.env.globals=mainGlobals
 blt:X.env.builtins=builtinsNs
 above:X.s₀.heap.objs.size≤X.env.locals
 inj:∀ x y c,X.env.cells.lookup x=some c→X.env.cells.lookup y=some c→x=y
 has:∀ x,(X.env.kindOf x=some .cell∨X.env.kindOf x=some .free)→∃ c,X.env.cells.lookup x=some c
 cab:∀ x c,X.fn x=true→X.env.cells.lookup x=some c→X.s₀.heap.objs.size≤c
 hd:X.calm=true→X.A.handled=none
 frames:X.A.frames=some X.stack
 stk:X.stack=X.outer∨(X.stack=X.env :: X.outer∧X.env.frame=some X.env.locals)
 exf:∀ b∈X.ex,b≠X.env.locals∧∀ x c,X.env.cells.lookup x=some c→c≠b
 bs:∀ b o,X.base.get? b=some o→X.s₀.heap.get? b=some o∧X.H₀ b=none
 bsz:X.base.objs.size≤X.s₀.heap.objs.size
 noex:∀ b o,X.base.get? b=some o→b∉X.ex
 exfs:∀ b∈X.ex,b∉X.fs
 funs:X.s₀.heap.FunFrames X.base X.outer
 frf:∀ b∈X.fs,X.H₀ b=none
structure Inv (X:Cx) (pins:List (Addr×Obj)) (σ:List (Option V)) (H:Hp) (s:Shared):Prop where
 ok:X.Ok
 os:s.os=X.s₀.os
 bare:AllBare s.gens
 base:Un X.fs X.ex X.H₀ H X.s₀.heap s.heap
 loc:∃ m,s.heap.Ns X.env.locals m∧∀ (i:Nat) (x:Str) (v:V),X.N[i]?=some x→σ[i]?=some (some v)→Vis X.env.scope x→∃ u,RelV v u∧Look X.env s.heap m x u
 cell:∀ x c,X.env.cells.lookup x=some c→∃ v,s.heap.IsCell c v
 free:H X.env.locals=none
 freeC:∀ x c,X.env.cells.lookup x=some c→H c=none
 pin:∀ p∈X.pn++pins,s.heap.get? p.1=some p.2∧H p.1=none∧p.1≠X.env.locals∧p.1∉X.fs∧∀ v,p.2.data≠.cell v
 hok:HOk X.prog X.w H s.heap
 len:σ.length=X.N.length
section
variable {X:Cx} {pins:List (Addr×Obj)} {σ:List (Option V)} {H H':Hp} {s:Shared} {h':Heap}
theorem Cx.Ok.nofr (ok:X.Ok) {b:Addr} {o:Obj} (e:X.base.get? b=some o):b∉X.fs:=fun hb=>by
 have:=(ok.funs.mem hb).1
 rw [e] at this;cases this
theorem Inv.bs (I:Inv X pins σ H s):∀ b o,X.base.get? b=some o→s.heap.get? b=some o∧H b=none:=fun b o e =>
 ⟨I.base.keep b o (I.ok.bs b o e).1 (I.ok.bs b o e).2 (I.ok.nofr e) (I.ok.noex b o e),I.base.free b o (I.ok.bs b o e).1 (I.ok.bs b o e).2 (I.ok.noex b o e)⟩
theorem Inv.bk (I:Inv X pins σ H s):∀ b o,X.base.get? b=some o→s.heap.get? b=some o:=fun b o e=>(I.bs b o e).1
theorem Inv.mod (I:Inv X pins σ H s):Mod X.K X.mg X.base:=I.ok.mod
theorem Inv.kIn (I:Inv X pins σ H s):X.K.In s.heap:=I.ok.mod.kin.keeps I.bk
theorem Inv.lt (I:Inv X pins σ H s):X.env.locals < s.heap.objs.size:=let ⟨_,hn,_⟩:=I.loc;hn.lt
theorem Inv.sz (I:Inv X pins σ H s):X.s₀.heap.objs.size≤s.heap.objs.size:=Nat.le_trans I.ok.above (Nat.le_of_lt I.lt)
theorem Inv.nofs (I:Inv X pins σ H s) {a:Addr} (h:s.heap.objs.size≤a):a∉X.fs:=fun hb=>by
 obtain ⟨_,o,ho,_⟩:=I.ok.funs.mem hb
 exact absurd (Nat.lt_of_lt_of_le (Heap.lt_size ho) (Nat.le_trans I.sz h)) (Nat.lt_irrefl _)
theorem Inv.cne (I:Inv X pins σ H s):∀ x c,X.env.cells.lookup x=some c→c≠X.env.locals:=fun x c e z=>by
 obtain ⟨v,o,ho,hd⟩:=I.cell x c e
 obtain ⟨m,⟨o',es,ep,ho',hd',_⟩,_⟩:=I.loc
 rw [z,ho'] at ho;cases ho;rw [hd'] at hd;cases hd
theorem Inv.funs (I:Inv X pins σ H s):s.heap.FunFrames X.base X.outer:=by
 have all:∀ (l:List Env),(∀ b∈frs l,b∈X.fs)→X.s₀.heap.FunFrames X.base l→s.heap.FunFrames X.base l:=by
  intro l
  induction l with
  | nil=>intro _ _;trivial
  | cons env r ih =>
   intro hs hl
   obtain ⟨hk,⟨L,o,hf,hn,ho,hd⟩,hr⟩:=hl
   have hL:L∈X.fs:=hs L (by unfold frs;rw [List.filterMap_cons,hf];exact List.mem_cons_self)
   obtain ⟨sl,e⟩:=I.base.slot L o ho (I.ok.frf L hL) hL fun z=>I.ok.exfs L z hL
   exact⟨hk,⟨L,_,hf,hn,e,hd⟩,ih (fun b hb=>hs b (by unfold frs;rw [List.filterMap_cons,hf];exact List.mem_cons_of_mem _ hb)) hr⟩
 exact all X.outer (fun _ hb=>hb) I.ok.funs
theorem Inv.stack (I:Inv X pins σ H s):s.heap.FunFrames X.base X.stack:=by
 rcases I.ok.stk with e | ⟨e,hf⟩
 ·rw [e];exact I.funs
 ·rw [e]
  obtain ⟨m,hn,_⟩:=I.loc
  refine .cons (by rw [I.ok.kind];decide) hf hn ?_ I.funs
  exact Heap.get?_none_of_le (Nat.le_trans I.ok.bsz I.ok.above)
theorem Inv.stkSub (I:Inv X pins σ H s):∀ b∈frs X.stack,b∈X.env.locals :: X.fs:=fun b hb=>by
 rcases I.ok.stk with e | ⟨e,hf⟩
 ·rw [e] at hb;exact List.mem_cons_of_mem _ hb
 ·rw [e] at hb
  unfold frs at hb
  rw [List.filterMap_cons,hf] at hb
  exact hb
theorem Inv.stkFree (I:Inv X pins σ H s):∀ b∈frs X.stack,H b=none:=fun b hb=>by
 rcases List.mem_cons.mp (I.stkSub b hb) with e | hb
 ·rw [e];exact I.free
 ·obtain ⟨_,o,ho,_⟩:=I.ok.funs.mem hb
  exact I.base.free b o ho (I.ok.frf b hb) fun z=>I.ok.exfs b z hb
theorem Inv.step {g':Array GenState} {t':Nat} {d':Drawn} {ch:List Addr} (I:Inv X pins σ H s)
  (hch:∀ b∈ch,(b∈X.ex∨X.s₀.heap.objs.size≤b)∧b≠X.env.locals∧(∀ x c,X.env.cells.lookup x=some c→c≠b)∧∀ p∈X.pn++pins,p.1≠b)
  (keep:∀ b o,b≠X.env.locals→b∉X.fs→b∉ch→s.heap.get? b=some o→H b=none→h'.get? b=some o)
  (slot:∀ b o,b≠X.env.locals→b∈X.fs→b∉ch→s.heap.get? b=some o→H b=none→∃ sl,h'.get? b=some { o with slots:=sl }) (free:∀ b o,b∉ch→s.heap.get? b=some o→H b=none→H' b=none)
  (there:∀ b o,b∉ch→s.heap.get? b=some o→∃ o',h'.get? b=some o')
  (tups:∀ b xs,H b=some (.tup xs)→H' b=some (.tup xs)) (frzs:∀ b o u,H b=some (.frz o u)→H' b=some (.frz o u)) (tbls:∀ b ps,H b=some (.tbl ps)→∃ more,H' b=some (.tbl (ps++more)))
  (ns:∀ m,s.heap.Ns X.env.locals m→h'.Ns X.env.locals m) (hok:HOk X.prog X.w H' h') (hg:AllBare g') :
  Inv X pins σ H' { s with heap:=h',gens:=g',drawn:=d',toks:=t' }:=by
 have neL:∀ b o,X.s₀.heap.get? b=some o→b≠X.env.locals:=fun b o e=>Nat.ne_of_lt (Nat.lt_of_lt_of_le (Heap.lt_size e) I.ok.above)
 have neC:∀ b o,X.s₀.heap.get? b=some o→b∉X.ex→b∉ch:=fun b o e hx hb=>by
  rcases (hch b hb).1 with z | z
  ·exact hx z
  ·exact absurd (Nat.lt_of_lt_of_le (Heap.lt_size e) z) (Nat.lt_irrefl _)
 have cellK:∀ x c,X.env.cells.lookup x=some c→∀ v,s.heap.IsCell c v→h'.IsCell c v:=fun x c e v ⟨o,ho,hd⟩=>by
  have nch:c∉ch:=fun z=>(hch c z).2.2.1 x c e rfl
  by_cases hc:c∈X.fs
  ·obtain ⟨sl,q⟩:=slot c o (I.cne x c e) hc nch ho (I.freeC x c e)
   exact⟨_,q,hd⟩
  ·exact⟨o,keep c o (I.cne x c e) hc nch ho (I.freeC x c e),hd⟩
 refine⟨I.ok,I.os,hg,⟨fun b o e n hb hx=>?_,fun b o e n hb hx=>?_,fun b o e n hx=>?_,fun b o e hx=>?_,fun b xs e=>tups b xs (I.base.tups b xs e),fun b o xs e=>frzs b o xs (I.base.frzs b o xs e),fun b ps e=>?_⟩,?_,fun x c e=>?_,?_,fun x c e=>?_,fun p hp=>?_,hok,I.len⟩
 ·exact keep b o (neL b o e) hb (neC b o e hx) (I.base.keep b o e n hb hx) (I.base.free b o e n hx)
 ·obtain ⟨sl,e1⟩:=I.base.slot b o e n hb hx
  obtain ⟨sl',e2⟩:=slot b _ (neL b o e) hb (neC b o e hx) e1 (I.base.free b o e n hx)
  exact⟨sl',e2⟩
 ·obtain ⟨o',e1⟩:=I.base.there b o e hx
  exact free b o' (neC b o e hx) e1 (I.base.free b o e n hx)
 ·obtain ⟨o',e1⟩:=I.base.there b o e hx
  exact there b o' (neC b o e hx) e1
 ·obtain ⟨m1,e1⟩:=I.base.tbls b ps e
  obtain ⟨m2,e2⟩:=tbls b _ e1
  exact⟨m1++m2,by rw [e2,Array.append_assoc]⟩
 ·obtain ⟨m,hn,hl⟩:=I.loc
  refine⟨m,ns m hn,fun i x v e1 e2 e3=>?_⟩
  obtain ⟨u,r,l⟩:=hl i x v e1 e2 e3
  refine⟨u,r,?_⟩
  rcases l with l | ⟨k,c,e,z⟩
  ·exact .inl l
  ·exact .inr ⟨k,c,e,cellK x c e _ z⟩
 ·obtain ⟨v,z⟩:=I.cell x c e
  exact⟨v,cellK x c e v z⟩
 ·obtain ⟨m,⟨o,_,_,ho,_⟩,_⟩:=I.loc
  exact free _ o (fun z=>(hch _ z).2.1 rfl) ho I.free
 ·obtain ⟨v,o,ho,hd⟩:=I.cell x c e
  exact free c o (fun z=>(hch c z).2.2.1 x c e rfl) ho (I.freeC x c e)
 ·obtain ⟨e,n,ne,nf,d⟩:=I.pin p hp
  have nch:p.1∉ch:=fun z=>(hch p.1 z).2.2.2 p hp rfl
  exact⟨keep p.1 p.2 ne nf nch e n,free p.1 p.2 nch e n,ne,nf,d⟩
theorem Inv.un {t':Nat} (I:Inv X pins σ H s) (u:Un X.fs [] H H' s.heap h') (hok:HOk X.prog X.w H' h'):Inv X pins σ H' { s with heap:=h',toks:=t' }:=by
 obtain ⟨m,⟨o,es,ep,ho,r⟩,_⟩:=id I.loc
 obtain ⟨sl,hL⟩:=u.any ho I.free (by simp)
 exact I.step (g':=s.gens) (d':=s.drawn) (ch:=[]) (fun _ z=>nomatch z) (fun b o _ hb _ e n=>u.keep b o e n hb (by simp)) (fun b o _ hb _ e n=>u.slot b o e n hb (by simp)) (fun b o _ e n=>u.free b o e n (by simp)) (fun b o _ e=>u.there b o e (by simp)) u.tups u.frzs u.tbls (fun m' hm=>by
  obtain ⟨o',es',ep',ho',r'⟩:=hm
  rw [ho] at ho';cases ho'
  exact⟨_,es',ep',hL,r'⟩) hok I.bare
theorem Inv.call {g':Array GenState} {t':Nat} {d':Drawn} {ch:List Addr} (I:Inv X pins σ H s) (u:Un (frs X.stack) ch H H' s.heap h') (hok:HOk X.prog X.w H' h') (hg:AllBare g')
  (hch:∀ b∈ch,(b∈X.ex∨X.s₀.heap.objs.size≤b)∧b≠X.env.locals∧(∀ x c,X.env.cells.lookup x=some c→c≠b)∧∀ p∈X.pn++pins,p.1≠b) :
  Inv X pins σ H' { s with heap:=h',gens:=g',drawn:=d',toks:=t' }:=by
 obtain ⟨m,⟨o,es,ep,ho,r⟩,_⟩:=id I.loc
 obtain ⟨sl,hL⟩:=u.any ho I.free fun z=>(hch _ z).2.1 rfl
 exact I.step (ch:=ch) hch (fun b o hL hb hc e n=>u.keep b o e n (fun z=>(List.mem_cons.mp (I.stkSub b z)).elim hL hb) hc) (fun b o _ _ hc e n=>u.any e n hc) (fun b o hc e n=>u.free b o e n hc) (fun b o hc e=>u.there b o e hc) u.tups u.frzs u.tbls (fun m' hm=>by
  obtain ⟨o',es',ep',ho',r'⟩:=hm
  rw [ho] at ho';cases ho'
  exact⟨_,es',ep',hL,r'⟩) hok hg
theorem Inv.turned {t':Nat} {it:Addr} (I:Inv X pins σ H s) (k:∀ b o,b≠it→s.heap.get? b=some o→h'.get? b=some o) (hn:H it=none) (hL:it≠X.env.locals)
  (h1:it∈X.ex∨X.s₀.heap.objs.size≤it) (h2:∀ x c,X.env.cells.lookup x=some c→c≠it) (h3:∀ p∈X.pn++pins,p.1≠it):Inv X pins σ H { s with heap:=h',toks:=t' }:=by
 have nit:∀ b u,H b=some u→b≠it:=fun b u e z=>by rw [z,hn] at e;cases e
 refine I.step (g':=s.gens) (d':=s.drawn) (ch:=[it]) (fun b hb=>?_) (fun b o _ _ hc e _=>k b o (fun z=>hc (by simp [z])) e) (fun b o _ _ hc e _=>⟨o.slots,k b o (fun z=>hc (by simp [z])) e⟩) (fun _ _ _ _ n=>n)
  (fun b o hc e=>⟨o,k b o (fun z=>hc (by simp [z])) e⟩) (fun _ _ e=>e) (fun _ _ _ e=>e) (fun b ps e=>⟨#[],by rw [e];simp⟩) (fun m hm=>?_) (fun b u e=>?_) I.bare
 ·have e:b=it:=by simpa using hb
  subst e
  exact⟨h1,hL,h2,h3⟩
 ·obtain ⟨o,es,ep,ho,r⟩:=hm
  exact⟨o,es,ep,k _ o (Ne.symm hL) ho,r⟩
 ·refine (I.hok b u e).stay (fun c v hc q=>k c v ?_ q) (fun _ q=>q) fun _ _ q=>q
  rcases hc with z | z
  ·rw [z];exact nit b u e
  ·exact nit c _ z
theorem Inv.tok (I:Inv X pins σ H s) (t:Nat):Inv X pins σ H { s with toks:=t }:=I.un (h':=s.heap) (t':=t) Un.refl I.hok
theorem Inv.kept {t':Nat} (I:Inv X pins σ H s) (k:∀ b u,s.heap.get? b=some u→h'.get? b=some u):Inv X pins σ H { s with heap:=h',toks:=t' }:=I.un (Un.kept k) (I.hok.kept k)
theorem Inv.laid {a:Addr} {o:HO} {t':Nat} (I:Inv X pins σ H s) (k:∀ b u,s.heap.get? b=some u→h'.get? b=some u) (hp:s.heap.objs.size≤a) (new:bH X.prog X.w (upd H a o) h' a o) :
  Inv X pins σ (upd H a o) { s with heap:=h',toks:=t' }:=I.un (Un.laid k hp (I.hok.fresh hp)) (I.hok.laid k hp new)
theorem Inv.write {x e:Addr} {o:HO} {t':Nat} (I:Inv X pins σ H s) (mu:Mut (H x)) (he:e=x∨H e=some (.own x)) (k:∀ b u,b≠e→s.heap.get? b=some u→h'.get? b=some u) (heo:∃ u,h'.get? e=some u)
  (new:bH X.prog X.w (upd H x o) h' x o):Inv X pins σ (upd H x o) { s with heap:=h',toks:=t' }:=I.un (Un.write mu he k heo) (I.hok.write mu he k heo new)
theorem Inv.pins_of {pins':List (Addr×Obj)} (I:Inv X pins σ H s) (h:∀ p∈pins',s.heap.get? p.1=some p.2∧H p.1=none∧p.1≠X.env.locals∧p.1∉X.fs∧∀ v,p.2.data≠.cell v):Inv X pins' σ H s :=
 ⟨I.ok,I.os,I.bare,I.base,I.loc,I.cell,I.free,I.freeC,fun p hp=>(List.mem_append.mp hp).elim (fun z=>I.pin p (List.mem_append_left _ z)) (h p),I.hok,I.len⟩
theorem mS {N:List Str} (hN:N.Nodup) {i j:Nat} {x:Str} (a:N[i]?=some x) (b:N[j]?=some x):i=j:=by
 obtain ⟨h1,e1⟩:=List.getElem?_eq_some_iff.mp a
 obtain ⟨h2,e2⟩:=List.getElem?_eq_some_iff.mp b
 exact (List.getElem_inj hN).mp (e1.trans e2.symm)
theorem kP {M:Model} {A:Around} {E:Value→Shared→Prop} {i:Nat} {x:Str} {v:V} {u:Value} {Q:Unit→Shared→Prop} (I:Inv X pins σ H s) (hN:X.N.Nodup) (hi:X.N[i]?=some x) (hx:Loc X.env.scope x) (r:RelV v u)
  (h:∀ s',Inv X pins (σ.set i (some v)) H s'→(∃ a,Heap.SameBut a s.heap s'.heap∧(a=X.env.locals∨X.env.cells.lookup x=some a))→Q () s') (hf:X.fn x=true∨X.env.scope.names.lookup x=some .local :=by walk_at "v1"):wpAny M A (storeName X.env x u) Q E s:=by
 obtain ⟨m,hn,hl⟩:=id I.loc
 have hcls:(X.env.scope.kind == .class || (X.env.scope.kind == .module && X.env.locals != X.env.globals))=false:=by rw [I.ok.kind];rfl
 have hiσ:i < σ.length:=by rw [I.len];exact (List.getElem?_eq_some_iff.mp hi).1
 have cne:=I.cne
 have tracked:∀ {a:Addr} {h':Heap},(∃ o,s.heap.get? a=some o∧H a=none)→Heap.SameBut a s.heap h'→HOk X.prog X.w H h':=fun {a h'} ha hs b ob e=>by
  obtain ⟨_,_,hfree⟩:=ha
  refine (I.hok b ob e).stay (fun c w' hc q=>(hs.2 c ?_).trans q) (fun _ q=>q) fun _ _ q=>q
  rintro rfl
  rcases hc with rfl | hc
  ·rw [hfree] at e;cases e
  ·rw [hfree] at hc;cases hc
 rcases hx with hk | hk
 ·refine wpAny_storeName_local hk hn (fun h' hn' hs=>?_) hcls
  obtain ⟨oL,_,_,hoL,_⟩:=id hn
  refine h _ ⟨I.ok,I.os,I.bare,⟨fun b o e n hb hx=>?_,fun b o e n hb hx=>?_,I.base.free,fun b o e hx=>?_,I.base.tups,I.base.frzs,I.base.tbls⟩,⟨_,hn',fun j y v' e1 e2 e3=>?_⟩,fun y c e=>?_,I.free,I.freeC,fun p hp=>?_,tracked ⟨oL,hoL,I.free⟩ hs,by simpa using I.len⟩ ⟨_,hs,.inl rfl⟩
  ·exact (hs.2 b (Nat.ne_of_lt (Nat.lt_of_lt_of_le (Heap.lt_size e) I.ok.above))).trans (I.base.keep b o e n hb hx)
  ·obtain ⟨sl,e1⟩:=I.base.slot b o e n hb hx
   exact⟨sl,(hs.2 b (Nat.ne_of_lt (Nat.lt_of_lt_of_le (Heap.lt_size e) I.ok.above))).trans e1⟩
  ·obtain ⟨o',e1⟩:=I.base.there b o e hx
   exact⟨o',(hs.2 b (Nat.ne_of_lt (Nat.lt_of_lt_of_le (Heap.lt_size e) I.ok.above))).trans e1⟩
  ·by_cases hj:j=i
   ·subst hj
    rw [hi] at e1;cases e1
    rw [List.getElem?_set_self hiσ] at e2
    cases e2
    exact⟨u,r,.inl ⟨hk,by simp⟩⟩
   ·rw [List.getElem?_set_ne (Ne.symm hj)] at e2
    obtain ⟨u',r',q⟩:=hl j y v' e1 e2 e3
    refine⟨u',r',?_⟩
    rcases q with ⟨k,e⟩ | ⟨k,c,e,z⟩
    ·refine .inl ⟨k,?_⟩
     have:y≠x:=fun e=>hj (mS hN e1 (e ▸ hi))
     simp [this,e]
    ·exact .inr ⟨k,c,e,z.sameBut hs (cne y c e)⟩
  ·obtain ⟨w',z⟩:=I.cell y c e
   exact⟨w',z.sameBut hs (cne y c e)⟩
  ·obtain ⟨e,n,ne,nf,d⟩:=I.pin p hp
   exact⟨(hs.2 p.1 ne).trans e,n,ne,nf,d⟩
 ·have hfn:X.fn x=true:=by
   rcases hf with z | z
   ·exact z
   ·rw [z] at hk;cases hk
  obtain ⟨c,hc⟩:=I.ok.has x (.inl hk)
  obtain ⟨w',z⟩:=I.cell x c hc
  refine wpAny_storeName_cell I.ok.kind hk hc z (fun h' hc' hs=>?_)
  obtain ⟨oc,hoc,hocd⟩:=id z
  refine h { s with heap:=h' } ⟨I.ok,I.os,I.bare,⟨fun b o e n hb hx=>?_,fun b o e n hb hx=>?_,I.base.free,fun b o e hx=>?_,I.base.tups,I.base.frzs,I.base.tbls⟩,⟨m,hn.sameBut hs (Ne.symm (cne x c hc)),fun j y v' e1 e2 e3=>?_⟩,fun y c' e=>?_,I.free,I.freeC,fun p hp=>?_,tracked ⟨oc,hoc,I.freeC x c hc⟩ hs,by simpa using I.len⟩ ⟨c,hs,.inr hc⟩
  ·exact (hs.2 b (Nat.ne_of_lt (Nat.lt_of_lt_of_le (Heap.lt_size e) (I.ok.cab x c hfn hc)))).trans (I.base.keep b o e n hb hx)
  ·obtain ⟨sl,e1⟩:=I.base.slot b o e n hb hx
   exact⟨sl,(hs.2 b (Nat.ne_of_lt (Nat.lt_of_lt_of_le (Heap.lt_size e) (I.ok.cab x c hfn hc)))).trans e1⟩
  ·obtain ⟨o',e1⟩:=I.base.there b o e hx
   exact⟨o',(hs.2 b (Nat.ne_of_lt (Nat.lt_of_lt_of_le (Heap.lt_size e) (I.ok.cab x c hfn hc)))).trans e1⟩
  ·by_cases hj:j=i
   ·subst hj
    rw [hi] at e1;cases e1
    rw [List.getElem?_set_self hiσ] at e2
    cases e2
    exact⟨u,r,.inr ⟨.inl hk,c,hc,hc'⟩⟩
   ·rw [List.getElem?_set_ne (Ne.symm hj)] at e2
    obtain ⟨u',r',q⟩:=hl j y v' e1 e2 e3
    refine⟨u',r',?_⟩
    rcases q with q | ⟨k,c',e,z'⟩
    ·exact .inl q
    ·refine .inr ⟨k,c',e,z'.sameBut hs ?_⟩
     rintro rfl
     exact hj (mS hN e1 (I.ok.inj _ _ _ e hc ▸ hi))
  ·by_cases hcc:c'=c
   ·subst hcc;exact⟨_,hc'⟩
   ·obtain ⟨w2,z2⟩:=I.cell y c' e
    exact⟨w2,z2.sameBut hs hcc⟩
  ·obtain ⟨e,n,ne,nf,d⟩:=I.pin p hp
   refine⟨(hs.2 p.1 ?_).trans e,n,ne,nf,d⟩
   intro q
   rw [q,hoc] at e
   have q':oc=p.2:=Option.some.inj e
   exact d w' (by rw [← q'];exact hocd)
theorem gq {M:Model} {A:Around} {E:Value→Shared→Prop} {i:Nat} {x:Str} {v:V} {u:Value} {Q:Unit→Shared→Prop} (I:Inv X pins σ H s) (hN:X.N.Nodup) (hi:X.N[i]?=some x) (hx:Loc X.env.scope x) (r:RelV v u)
  (h:∀ s',Inv X pins (σ.set i (some v)) H s'→Q () s') (hf:X.fn x=true∨X.env.scope.names.lookup x=some .local :=by walk_at "v1"):wpAny M A (storeName X.env x u) Q E s :=
 kP I hN hi hx r (fun s' I' _=>h s' I') hf
theorem Inv.call' {s':Shared} {ch:List Addr} (I:Inv X pins σ H s) (ho:s'.os=s.os) (u:Un (frs X.stack) ch H H' s.heap s'.heap) (hok:HOk X.prog X.w H' s'.heap) (hg:AllBare s'.gens)
  (hch:∀ b∈ch,(b∈X.ex∨X.s₀.heap.objs.size≤b)∧b≠X.env.locals∧(∀ x c,X.env.cells.lookup x=some c→c≠b)∧∀ p∈X.pn++pins,p.1≠b):Inv X pins σ H' s':=by
 obtain ⟨h',g',d',t',o'⟩:=s'
 have e:o'=s.os:=ho
 subst e
 exact I.call (g':=g') (t':=t') (d':=d') u hok hg hch
end
abbrev XK:=Value→Option Addr→Hp→Prop
abbrev St:=List (Option V)
abbrev VK:=V→Hp→Prop
abbrev TE:=St→Hp→VK→Prop
abbrev TT:=St→Hp→(Bool→Hp→Prop)→Prop
abbrev TA:=St→Hp→(List V→Hp→Prop)→Prop
structure Ends where
 nx:St→Hp→Prop
 rt:VK
 bk:St→Hp→Prop:=fun _ _=>False
 ct:St→Hp→Prop:=fun _ _=>False
abbrev TS:=Ends→St→Hp→Prop
def EP (X:Cx) (pins:List (Addr×Obj)) (σ:St) (Q:VK) (u:Value) (s':Shared):Prop:=∃ v H',Inv X pins σ H' s'∧RelV v u∧Q v H'
def TP (X:Cx) (pins:List (Addr×Obj)) (σ:St) (Q:Bool→Hp→Prop) (b:Bool) (s':Shared):Prop:=∃ H',Inv X pins σ H' s'∧Q b H'
def AP (X:Cx) (pins:List (Addr×Obj)) (σ:St) (Q:List V→Hp→Prop) (us:List Value) (s':Shared):Prop:=∃ vs H',Inv X pins σ H' s'∧Vals vs us∧Q vs H'
def SP (X:Cx) (pins:List (Addr×Obj)) (D:Ends) (f:Flow) (s':Shared):Prop :=
 match f with
 | .next=>∃ σ' H',Inv X pins σ' H' s'∧D.nx σ' H'
 | .brk=>∃ σ' H',Inv X pins σ' H' s'∧D.bk σ' H'
 | .cont=>∃ σ' H',Inv X pins σ' H' s'∧D.ct σ' H'
 | .ret u=>∃ v σ' H',Inv X pins σ' H' s'∧RelV v u∧D.rt v H'
def PE (X:Cx) (e:Expr) (t:TE):Prop :=
 ∀ (pins:List (Addr×Obj)) (s:Shared) (σ:St) (H:Hp) (Q:VK),Inv X pins σ H s→t σ H Q→wpAny (model X.prog X.w) X.A (eval e X.env) (EP X pins σ Q) X.xe s
def PT (X:Cx) (e:Expr) (t:TT):Prop :=
 ∀ (pins:List (Addr×Obj)) (s:Shared) (σ:St) (H:Hp) (Q:Bool→Hp→Prop),Inv X pins σ H s→t σ H Q→wpAny (model X.prog X.w) X.A (isTrue e X.env (eval e X.env)) (TP X pins σ Q) X.xe s
def PW (X:Cx) (e:Expr) (t:TT):Prop :=
 ∀ (whole:Sem Value) (pins:List (Addr×Obj)) (s:Shared) (σ:St) (H:Hp) (Q:Bool→Hp→Prop),Inv X pins σ H s→t σ H Q→wpAny (model X.prog X.w) X.A (isTrue e X.env whole) (TP X pins σ Q) X.xe s
theorem PW.pt {X:Cx} {e:Expr} {t:TT} (h:PW X e t):PT X e t:=h _
def PA (X:Cx) (es:List Expr) (t:TA):Prop :=
 ∀ (pos:Pos) (pins:List (Addr×Obj)) (s:Shared) (σ:St) (H:Hp) (Q:List V→Hp→Prop),Inv X pins σ H s→t σ H Q→wpAny (model X.prog X.w) X.A (spliced (backTo pos (starEach es X.env))) (AP X pins σ Q) X.xe s
def PS (X:Cx) (st:Stmt) (t:TS):Prop :=
 ∀ (pins:List (Addr×Obj)) (s:Shared) (σ:St) (H:Hp) (D:Ends),Inv X pins σ H s→t D σ H→wpAny (model X.prog X.w) X.A (exec st X.env) (SP X pins D) X.xe s
def PSs (X:Cx) (st:List Stmt) (t:TS):Prop :=
 ∀ (pins:List (Addr×Obj)) (s:Shared) (σ:St) (H:Hp) (D:Ends),Inv X pins σ H s→t D σ H→wpAny (model X.prog X.w) X.A (execs st X.env) (SP X pins D) X.xe s
theorem thn {α:Type} {t:Sem α} {Q Q':α→Shared→Prop} {M:Model} {A:Around} {E:Value→Shared→Prop} {s:Shared} (h:wpAny M A t Q E s) (hQ:∀ a s,Q a s→Q' a s):wpAny M A t Q' E s:=wpAny_mono h hQ fun _ _ x=>x
end L2
namespace L2
open PySem PySem.Spec PyProof.Rows
section
variable {X:Cx}
theorem bin {a b:Expr} {ta tb:TE} (ha:PE X a ta) (hb:PE X b tb) {pins:List (Addr×Obj)} {s:Shared} {σ:St} {H:Hp} {R:V→V→Hp→Prop} (I:Inv X pins σ H s) (h:ta σ H fun x H1=>tb σ H1 fun y H2=>R x y H2)
  {α:Type} {Q:α→Shared→Prop} {f:Value→Value→Sem α}
  (hf:∀ v u s2 x y H2,Inv X pins σ H2 s2→RelV x v→RelV y u→R x y H2→wpAny (model X.prog X.w) X.A (f v u) Q X.xe s2) :
  wpAny (model X.prog X.w) X.A (eval a X.env) (fun v s₁=>wpAny (model X.prog X.w) X.A (eval b X.env) (fun u s₂=>wpAny (model X.prog X.w) X.A (f v u) Q X.xe s₂) X.xe s₁) X.xe s:=by
 refine thn (ha pins s σ H _ I h) fun v s1 ⟨x,H1,I1,r1,q1⟩=>?_
 refine thn (hb pins s1 σ H1 _ I1 q1) fun u s2 ⟨y,H2,I2,r2,q2⟩=>?_
 exact hf v u s2 x y H2 I2 r1 r2 q2
def tVar (i:Nat):TE:=fun σ H Q=>∃ v,σ[i]?=some (some v)∧Q v H
def tC (v:V):TE:=fun _ H Q=>Q v H
theorem cE {i:Nat} {x:Str} {pos:Pos} (hN:X.N[i]?=some x) (hv:Vis X.env.scope x) (hd:(x == ("__debug__":Str))=false:=by decide) (hcd:(x == ("__classdict__":Str))=false:=by decide):PE X (.Name x pos) (tVar i):=by
 intro pins s σ H Q I h
 obtain ⟨v,e,h⟩:=h
 obtain ⟨m,hn,hl⟩:=I.loc
 obtain ⟨u,r,l⟩:=hl i x v hN e hv
 have fin:EP X pins σ Q u s:=⟨v,H,I,r,h⟩
 rcases l with ⟨hk,hm⟩ | ⟨hk,c,hc,hcell⟩
 ·exact wpAny_Name (wpAny_loadName_local I.ok.kind hk hn hm fin) hd
 ·rcases hk with hk | hk
  ·exact wpAny_Name (wpAny_loadName_cell I.ok.kind hk hc hcell fin) hd
  ·exact wpAny_Name (wpAny_loadName_free I.ok.kind hk hc hcell fin hcd) hd
theorem u6 {i j pos}:PE X (.Constant (.int i) j pos) (tC (.int i)):=fun _ _ _ H _ I h=>wpAny_Constant_int ⟨.int i,H,I.tok _,⟨_,rfl⟩,h⟩
theorem Be {b j pos}:PE X (.Constant (.bool b) j pos) (tC (.bl b)):=fun _ _ _ H _ I h=>Constant_bool ⟨.bl b,H,I,rfl,h⟩
theorem zR {j pos}:PE X (.Constant .none j pos) (tC .non):=fun _ _ _ H _ I h=>Constant_none ⟨.non,H,I,rfl,h⟩
theorem zv {x j pos}:PE X (.Constant (.str x) j pos) (tC (.str x)):=fun _ _ _ H _ I h=>Calls.Constant_str ⟨.str x,H,I.tok _,⟨_,rfl⟩,h⟩
def Gl (X:Cx) (x:Str):Prop:=X.env.kindOf x=some .globalImplicit
theorem pN {E:Value→Shared→Prop} {pins:List (Addr×Obj)} {s:Shared} {σ:St} {H:Hp} {x:Str} {u:Value} {pos:Pos} {Q:Value→Shared→Prop} (I:Inv X pins σ H s) (hg:Gl X x) (hm:X.mg x=some u) (h:Q u s)
  (hd:(x == ("__debug__":Str))=false:=by decide):wpAny (model X.prog X.w) X.A (eval (.Name x pos) X.env) Q E s :=
 Calls.Name_function_global I.ok.kind hg (Calls.loadGlobal_global (by rw [I.ok.glob];exact I.mod.glob.keeps I.bk) hm h) hd
theorem iw {E:Value→Shared→Prop} {pins:List (Addr×Obj)} {s:Shared} {σ:St} {H:Hp} {x:Str} {u:Value} {pos:Pos} {Q:Value→Shared→Prop} (I:Inv X pins σ H s) (hg:Gl X x) (hm:X.mg x=none) (hv:bootBuiltins x=some u) (h:Q u s)
  (hn:x≠"__name__":=by decide) (hd:(x == ("__debug__":Str))=false:=by decide):wpAny (model X.prog X.w) X.A (eval (.Name x pos) X.env) Q E s:=by
 obtain ⟨mb,h1,h2⟩:=I.mod.blt
 exact Calls.Name_function_global I.ok.kind hg (Calls.loadGlobal_builtin (by rw [I.ok.glob];exact I.mod.glob.keeps I.bk) hm (by rw [I.ok.blt];exact h1.keeps I.bk) ((h2 x hn).trans hv) h) hd
theorem wH {x:Str} {v:V} {u:Value} {pos:Pos} (hg:Gl X x) (hm:X.mg x=some u) (r:RelV v u) (hd:(x == ("__debug__":Str))=false:=by decide):PE X (.Name x pos) (tC v) :=
 fun _ _ _ H _ I h=>pN I hg hm ⟨v,H,I,r,h⟩ hd
theorem xR {x:Str} {v:V} {u:Value} {pos:Pos} (hg:Gl X x) (hm:X.mg x=none) (hv:bootBuiltins x=some u) (r:RelV v u) (hn:x≠"__name__":=by decide) (hd:(x == ("__debug__":Str))=false:=by decide):PE X (.Name x pos) (tC v) :=
 fun _ _ _ H _ I h=>iw I hg hm hv ⟨v,H,I,r,h⟩ hn hd
variable {a b:Expr} {ta tb:TE} {pos:Pos}
def PC (X:Cx) (op:CmpOp) (a b:Expr) (t:TE):Prop :=
 ∀ (pins:List (Addr×Obj)) (s:Shared) (σ:St) (H:Hp) (Q:VK),Inv X pins σ H s→t σ H Q →
  wpAny (model X.prog X.w) X.A (eval a X.env) (fun v s₁=>wpAny (model X.prog X.w) X.A (eval b X.env) (fun u s₂=>wpAny (model X.prog X.w) X.A (compareOp op v u) (EP X pins σ Q) X.xe s₂) X.xe s₁) X.xe s
def tB (t:TE):TT:=fun σ H Q=>t σ H fun x H1=>∃ c,x=.bl c∧Q c H1
theorem pt_cmp {op:CmpOp} {t:TE} (h:PC X op a b t) (h1:behindInMarks op b=false:=by first | exact nobehind _ (by decide) (by decide) | rfl):PT X (.Compare a [op] [b] pos) (tB t):=by
 intro pins s σ H Q I hw
 refine wpAny_isTrue_Compare1 (thn (h pins s σ H _ I hw) fun v s1 h1=>thn h1 fun u s2 h2=>thn h2 fun c s3 ⟨x,H1,I1,r1,q1⟩=>?_) h1
 obtain ⟨d,rfl,q⟩:=q1
 cases r1
 exact wpAny_truthy_bool ⟨H1,I1,q⟩
theorem xY {e:Expr} {t:TE} (h:PE X e t) (he:∀ whole,isTrue e X.env whole=(do let v←whole;standAt e.pos;holding [v] (truthy v)):=by intro _;rfl):PT X e (tB t):=by
 intro pins s σ H Q I hw
 refine isTrue_plain (thn (h pins s σ H _ I hw) fun v s1 ⟨x,H1,I1,r1,q1⟩=>?_) (he _)
 obtain ⟨d,rfl,q⟩:=q1
 cases r1
 exact wpAny_truthy_bool ⟨H1,I1,q⟩
variable {tA tB':TT} {rest:List Expr}
def tAnd (t u:TT):TT:=fun σ H Q=>t σ H fun c H1=>if c=true then u σ H1 Q else Q false H1
def tOr (t u:TT):TT:=fun σ H Q=>t σ H fun c H1=>if c=true then Q true H1 else u σ H1 Q
def tNot (t:TT):TT:=fun σ H Q=>t σ H fun c H1=>Q (!c) H1
theorem wK (ha:PT X a tA):PW X (.BoolOp .And [a] pos) tA:=by
 intro wh pins s σ H Q I h
 refine isTrue_and (thn (ha pins s σ H Q I h) fun c s1 e=>?_)
 cases c with
 | true=>exact isTrue_and_nil e
 | false=>exact e
theorem Am (ha:PT X a tA):PW X (.BoolOp .Or [a] pos) tA:=by
 intro wh pins s σ H Q I h
 refine isTrue_or (thn (ha pins s σ H Q I h) fun c s1 e=>?_)
 cases c with
 | false=>exact isTrue_or_nil e
 | true=>exact e
theorem za (ha:PT X a tA) (hb:PW X (.BoolOp .And (b :: rest) pos) tB'):PW X (.BoolOp .And (a :: b :: rest) pos) (tAnd tA tB'):=by
 intro wh pins s σ H Q I h
 refine isTrue_and (thn (ha pins s σ H _ I h) fun c s1 ⟨H1,I1,q1⟩=>?_)
 cases c with
 | true=>exact hb wh pins s1 σ H1 Q I1 q1
 | false=>exact⟨H1,I1,q1⟩
theorem AG (ha:PT X a tA) (hb:PW X (.BoolOp .Or (b :: rest) pos) tB'):PW X (.BoolOp .Or (a :: b :: rest) pos) (tOr tA tB'):=by
 intro wh pins s σ H Q I h
 refine isTrue_or (thn (ha pins s σ H _ I h) fun c s1 ⟨H1,I1,q1⟩=>?_)
 cases c with
 | true=>exact⟨H1,I1,q1⟩
 | false=>exact hb wh pins s1 σ H1 Q I1 q1
theorem ym (ha:PT X a tA):PT X (.UnaryOp .Not a pos) (tNot tA):=by
 intro pins s σ H Q I h
 exact isTrue_not (ha pins s σ H (fun c H1=>Q (!c) H1) I h)
def AZ (ta tb:TE):TE:=fun σ H Q=>ta σ H fun x H1=>∃ c,x=.bl c∧if c=true then tb σ H1 Q else Q (.bl false) H1
def tOrV (ta tb:TE):TE:=fun σ H Q=>ta σ H fun x H1=>∃ c,x=.bl c∧if c=true then Q (.bl true) H1 else tb σ H1 Q
def Bw (ta:TE):TE:=fun σ H Q=>ta σ H fun x H1=>∃ c,x=.bl c∧Q (.bl (!c)) H1
theorem yQ {op} {t:TE} (h:PE X a t):PE X (.BoolOp op [a] pos) t:=fun pins s σ H Q I hw=>BoolOp_one (h pins s σ H Q I hw)
theorem yh (ha:PE X a ta) (hb:PE X (.BoolOp .And (b :: rest) pos) tb):PE X (.BoolOp .And (a :: b :: rest) pos) (AZ ta tb):=by
 intro pins s σ H Q I h
 refine BoolOp_and (thn (ha pins s σ H _ I h) fun v s1 ⟨x,H1,I1,r1,q1⟩=>?_)
 obtain ⟨c,rfl,q1⟩:=q1
 cases r1
 refine wpAny_truthy_bool ?_
 cases c with
 | true=>exact hb pins s1 σ H1 Q I1 q1
 | false=>exact⟨.bl false,H1,I1,rfl,q1⟩
theorem Bm (ha:PE X a ta) (hb:PE X (.BoolOp .Or (b :: rest) pos) tb):PE X (.BoolOp .Or (a :: b :: rest) pos) (tOrV ta tb):=by
 intro pins s σ H Q I h
 refine BoolOp_or (thn (ha pins s σ H _ I h) fun v s1 ⟨x,H1,I1,r1,q1⟩=>?_)
 obtain ⟨c,rfl,q1⟩:=q1
 cases r1
 refine wpAny_truthy_bool ?_
 cases c with
 | false=>exact hb pins s1 σ H1 Q I1 q1
 | true=>exact⟨.bl true,H1,I1,rfl,q1⟩
theorem yL (ha:PE X a ta):PE X (.UnaryOp .Not a pos) (Bw ta):=by
 intro pins s σ H Q I h
 refine UnaryOp_ (thn (ha pins s σ H _ I h) fun v s1 ⟨x,H1,I1,r1,q1⟩=>?_)
 obtain ⟨c,rfl,q1⟩:=q1
 cases r1
 exact not_of (wpAny_truthy_bool ⟨.bl (!c),H1,I1,rfl,q1⟩)
def tIf (t:TT) (ta tb:TE):TE:=fun σ H Q=>t σ H fun c H1=>if c=true then ta σ H1 Q else tb σ H1 Q
theorem sM {c:Expr} (hc:PT X c tA) (ha:PE X a ta) (hb:PE X b tb):PE X (.IfExp c a b pos) (tIf tA ta tb):=by
 intro pins s σ H Q I h
 refine wpAny_IfExp (thn (hc pins s σ H _ I h) fun d s1 ⟨H1,I1,q1⟩=>?_)
 cases d with
 | true=>exact ha pins s1 σ H1 Q I1 q1
 | false=>exact hb pins s1 σ H1 Q I1 q1
end
end L2
namespace L2
open PySem PySem.Spec PyProof.Rows
def SqL (K:PySem.W.Frag) (H:Hp) (a:Addr) (xs:List V):Prop :=
 Rd H a (.lst xs) ∨
  ∃ (o:Obj) (its:Array Value) (n:Nat),K.lookup a=some o∧o.cls=.type "list"∧o.dict=none∧o.data=.seq its n∧its.size≤sizeLine∧Vals xs its.toList
def SqT (K:PySem.W.Frag) (H:Hp) (a:Addr) (xs:List V):Prop :=
 Rd H a (.tup xs) ∨
  ∃ (o:Obj) (its:Array Value) (n:Nat),K.lookup a=some o∧o.cls=.type "tuple"∧o.data=.seq its n∧its.size≤sizeLine∧Vals xs its.toList
def absV:Value→Option V
 | .none=>some .non
 | .bool b=>some (.bl b)
 | .int i _=>some (.int i)
 | .str x _=>some (.str x)
 | .bytes b _=>some (.byt b)
 | .float b _=>some (.flt b)
 | .ref a=>some (.ref a)
 | .type n=>some (.ty n)
 | _=>none
theorem RelV.abs {x:V} {u:Value} (r:RelV x u):absV u=some x:=by
 cases x with
 | non=>cases r;rfl
 | bl _=>cases r;rfl
 | int _=>obtain ⟨t,rfl⟩:=r;rfl
 | str _=>obtain ⟨t,rfl⟩:=r;rfl
 | byt _=>obtain ⟨t,rfl⟩:=r;rfl
 | flt _=>obtain ⟨t,rfl⟩:=r;rfl
 | ref _=>cases r;rfl
 | ty _=>cases r;rfl
theorem RelV.inj {x y:V} {u:Value} (r:RelV x u) (q:RelV y u):x=y:=Option.some.inj (r.abs.symm.trans q.abs)
theorem Vals.inj:∀ {xs ys:List V} {us:List Value},Vals xs us→Vals ys us→xs=ys
 | _,_,_,.nil,.nil=>rfl
 | _,_,_,.cons r t,.cons r' t'=>by rw [r.inj r',Vals.inj t t']
section
variable {X:Cx} {pins:List (Addr×Obj)} {σ:St} {H:Hp} {s:Shared} {a:Addr} {xs ys:List V}
theorem SqL.of {K:PySem.W.Frag} (h:H a=some (.lst xs)):SqL K H a xs:=.inl (.inl h)
theorem SqT.of {K:PySem.W.Frag} (h:H a=some (.tup xs)):SqT K H a xs:=.inl (.inl h)
theorem Inv.list (I:Inv X pins σ H s) (h:SqL X.K H a xs):∃ its:List Value,Vals xs its∧PlainL s.heap a its.toArray∧xs.length≤sizeLine:=by
 rcases h with h | ⟨o,its,n,hk,hc,hd,hs,hz,r⟩
 ·obtain ⟨z,its,n,r,e⟩:=h.ok I.hok
  exact⟨its,r,⟨_,n,e,rfl,rfl,rfl⟩,z⟩
 ·refine⟨its.toList,r,⟨o,n,I.kIn a o hk,hc,hd,by simpa using hs⟩,?_⟩
  have e:=r.length
  simp only [Array.length_toList] at e
  omega
theorem Inv.tuple (I:Inv X pins σ H s) (h:SqT X.K H a xs):∃ its:List Value,Vals xs its∧IsTup s.heap a its.toArray∧xs.length≤sizeLine:=by
 rcases h with h | ⟨o,its,n,hk,hc,hs,hz,r⟩
 ·obtain ⟨z,its,r,p⟩:=h.ok I.hok
  exact⟨its,r,p,z⟩
 ·refine⟨its.toList,r,⟨o,I.kIn a o hk,hc,n,by simpa using hs⟩,?_⟩
  have e:=r.length
  simp only [Array.length_toList] at e
  omega
theorem Inv.list_inj (I:Inv X pins σ H s) (h:SqL X.K H a xs) (h':SqL X.K H a ys):xs=ys:=by
 obtain ⟨its,r,⟨o,n,e,_,_,d⟩,_⟩:=I.list h
 obtain ⟨its',r',⟨o',n',e',_,_,d'⟩,_⟩:=I.list h'
 rw [e] at e';cases e'
 rw [d] at d'
 injection d' with d1 _
 have:its=its':=by simpa using congrArg Array.toList d1
 subst this
 exact r.inj r'
theorem Inv.tuple_inj (I:Inv X pins σ H s) (h:SqT X.K H a xs) (h':SqT X.K H a ys):xs=ys:=by
 obtain ⟨its,r,⟨o,e,_,n,d⟩,_⟩:=I.tuple h
 obtain ⟨its',r',⟨o',e',_,n',d'⟩,_⟩:=I.tuple h'
 rw [e] at e';cases e'
 rw [d] at d'
 injection d' with d1 _
 have:its=its':=by simpa using congrArg Array.toList d1
 subst this
 exact r.inj r'
end
abbrev Cx.wish (X:Cx) (E:Value→Shared→Prop):Cx:={ X with xe:=E }
abbrev Cx.nox (X:Cx):Cx:=X.wish fun _ _=>False
theorem Cx.Ok.wish {X:Cx} (ok:X.Ok) (E:Value→Shared→Prop):(X.wish E).Ok :=
 ⟨ok.mod,ok.kind,ok.glob,ok.blt,ok.above,ok.inj,ok.has,ok.cab,ok.hd,ok.frames,ok.stk,ok.exf,ok.bs,ok.bsz,ok.noex,ok.exfs,ok.funs,ok.frf⟩
theorem Cx.Ok.unwish {X:Cx} {E:Value→Shared→Prop} (ok:(X.wish E).Ok):X.Ok :=
 ⟨ok.mod,ok.kind,ok.glob,ok.blt,ok.above,ok.inj,ok.has,ok.cab,ok.hd,ok.frames,ok.stk,ok.exf,ok.bs,ok.bsz,ok.noex,ok.exfs,ok.funs,ok.frf⟩
section
variable {X:Cx} {pins:List (Addr×Obj)} {σ:St} {H:Hp} {s:Shared} {E:Value→Shared→Prop}
theorem Inv.wish (I:Inv X pins σ H s) (E:Value→Shared→Prop):Inv (X.wish E) pins σ H s:=⟨I.ok.wish E,I.os,I.bare,I.base,I.loc,I.cell,I.free,I.freeC,I.pin,I.hok,I.len⟩
theorem Inv.unwish (I:Inv (X.wish E) pins σ H s):Inv X pins σ H s:=⟨I.ok.unwish,I.os,I.bare,I.base,I.loc,I.cell,I.free,I.freeC,I.pin,I.hok,I.len⟩
theorem SP.unwish {D:Ends} {f:Flow} {s':Shared} (h:SP (X.wish E) pins D f s'):SP X pins D f s':=by
 cases f with
 | next=>obtain ⟨σ',H',I,q⟩:=h;exact⟨σ',H',I.unwish,q⟩
 | brk=>obtain ⟨σ',H',I,q⟩:=h;exact⟨σ',H',I.unwish,q⟩
 | cont=>obtain ⟨σ',H',I,q⟩:=h;exact⟨σ',H',I.unwish,q⟩
 | ret u=>obtain ⟨v,σ',H',I,r,q⟩:=h;exact⟨v,σ',H',I.unwish,r,q⟩
theorem PSs.nox {st:List Stmt} {t:TS} (h:PSs X.nox st t):PSs X st t:=fun pins s σ H D I hw =>
 wpAny_mono (h pins s σ H D (I.wish _) hw) (fun _ _ q=>q.unwish) fun _ _ z=>False.elim z
end
section
variable {X:Cx} {st:Stmt} {rest:List Stmt} {t u:TS} {e:Expr} {te:TE} {pos:Pos}
def AO:TS:=fun D σ H=>D.nx σ H
def tSeq (t u:TS):TS:=fun D σ H=>t { D with nx:=u D } σ H
theorem v9:PSs X [] AO:=fun _ _ σ H _ I h=>wpAny_execs_nil ⟨σ,H,I,h⟩
theorem uv (h1:PS X st t) (h2:PSs X rest u):PSs X (st :: rest) (tSeq t u):=by
 intro pins s σ H D I h
 refine wpAny_execs_cons (thn (h1 pins s σ H { D with nx:=u D } I h) fun f s1 q=>?_)
 cases f with
 | next =>
  obtain ⟨σ',H',I',q⟩:=q
  exact h2 pins s1 σ' H' D I' q
 | ret v=>exact q
 | brk=>exact q
 | cont=>exact q
theorem v7 (h1:PS X st t):PSs X [st] t:=by
 intro pins s σ H D I h
 refine wpAny_execs_cons (thn (h1 pins s σ H D I h) fun f s1 q=>?_)
 cases f with
 | next=>exact wpAny_execs_nil q
 | ret v=>exact q
 | brk=>exact q
 | cont=>exact q
theorem Inv.quiet {pins:List (Addr×Obj)} {σ:St} {H:Hp} {s:Shared} (I:Inv X pins σ H s):interactive X.env=false:=by simp [interactive,I.ok.kind]
def AI (te:TE):TS:=fun D σ H=>te σ H fun _ H1=>D.nx σ H1
theorem jt (he:PE X e te) (hs:swapsWith e none pos.line X.env=pure false:=by rfl):PS X (.Expr e pos) (AI te):=by
 intro pins s σ H D I h
 exact wpAny_Expr_any (thn (he pins s σ H _ I h) fun v s1 ⟨x,H1,I1,r1,q1⟩=>⟨σ,H1,I1,q1⟩) I.quiet hs
def tRet (te:TE):TS:=fun D σ H=>te σ H D.rt
theorem qE (he:PE X e te):PS X (.Return (some e) pos) (tRet te):=by
 intro pins s σ H D I h
 exact wpAny_Return_some (thn (he pins s σ H _ I h) fun v s1 ⟨x,H1,I1,r1,q1⟩=>⟨x,σ,H1,I1,r1,q1⟩)
def Bl:TS:=fun D _ H=>D.rt .non H
theorem vR:PS X (.Return none pos) Bl:=fun _ _ σ H _ I h=>wpAny_Return_none ⟨.non,σ,H,I,rfl,h⟩
def tIfS (c:TT) (t u:TS):TS:=fun D σ H=>c σ H fun b H1=>if b=true then t D σ H1 else u D σ H1
theorem Bg {c:Expr} {a b:List Stmt} {tc:TT} (hc:PT X c tc) (ha:PSs X a t) (hb:PSs X b u):PS X (.If c a b pos) (tIfS tc t u):=by
 intro pins s σ H D I h
 refine wpAny_If (thn (hc pins s σ H _ I h) fun d s1 ⟨H1,I1,q1⟩=>?_)
 cases d with
 | true=>exact ha pins s1 σ H1 D I1 q1
 | false=>exact hb pins s1 σ H1 D I1 q1
def uY:TS:=fun _ _ _=>False
theorem t4:PS X st uY:=fun _ _ _ _ _ _ h=>h.elim
theorem qo {sts:List Stmt}:PSs X sts uY:=fun _ _ _ _ _ _ h=>h.elim
end
abbrev TG:=V→St→Hp→(St→Hp→Prop)→Prop
abbrev TGs:=List V→St→Hp→(St→Hp→Prop)→Prop
def PG (X:Cx) (target:Expr) (t:TG):Prop :=
 ∀ (pins:List (Addr×Obj)) (s:Shared) (σ:St) (H:Hp) (v:V) (u:Value) (Q:St→Hp→Prop),Inv X pins σ H s→RelV v u→t v σ H Q →
  wpAny (model X.prog X.w) X.A (assign target X.env u) (fun _ s'=>∃ σ' H',Inv X pins σ' H' s'∧Q σ' H') X.xe s
def PGs (X:Cx) (ts:List Expr) (t:TGs):Prop :=
 ∀ (pins:List (Addr×Obj)) (s:Shared) (σ:St) (H:Hp) (vs:List V) (us:List Value) (Q:St→Hp→Prop),Inv X pins σ H s→Vals vs us→t vs σ H Q →
  wpAny (model X.prog X.w) X.A (assignInOrder ((assignEach ts X.env).map (·.2)) us) (fun _ s'=>∃ σ' H',Inv X pins σ' H' s'∧Q σ' H') X.xe s
abbrev TSet:=V→V→V→Hp→(Hp→Prop)→Prop
def PSet (X:Cx) (t:TSet):Prop :=
 ∀ (pins:List (Addr×Obj)) (s:Shared) (σ:St) (H:Hp) (o i v:V) (ov iv u:Value) (Q:Hp→Prop),Inv X pins σ H s→RelV o ov→RelV i iv→RelV v u→t o i v H Q →
  wpAny (model X.prog X.w) X.A (setItem ov iv u) (fun _ s'=>∃ H',Inv X pins σ H' s'∧Q H') X.xe s
section
variable {X:Cx} {pos:Pos}
def qV (i:Nat):TG:=fun v σ H Q=>Q (σ.set i (some v)) H
theorem xA {i:Nat} {x:Str} (hN:X.N.Nodup) (hi:X.N[i]?=some x) (hx:Loc X.env.scope x) (hf:X.fn x=true∨X.env.scope.names.lookup x=some .local :=by walk_at "v1"):PG X (.Name x pos) (qV i):=by
 intro pins s σ H v u Q I r h
 exact wpAny_assign_Name (gq I hN hi hx r (fun s' I'=>⟨_,H,I',h⟩) hf)
def gNil:TGs:=fun vs σ H Q=>vs=[]∧Q σ H
def AK (t:TG) (u:TGs):TGs:=fun vs σ H Q=>∃ v r,vs=v :: r∧t v σ H fun σ' H'=>u r σ' H' Q
theorem xz:PGs X [] gNil:=by
 intro pins s σ H vs us Q I r h
 obtain ⟨e,h⟩:=h
 subst e
 cases r
 exact assignInOrder_nil ⟨σ,H,I,h⟩
theorem sV {e:Expr} {es:List Expr} {t:TG} {u:TGs} (h1:PG X e t) (h2:PGs X es u)
  (hs:(assignEach (e :: es) X.env).map (·.2)=assign e X.env :: (assignEach es X.env).map (·.2):=by rfl):PGs X (e :: es) (AK t u):=by
 intro pins s σ H vs us Q I r h
 obtain ⟨v,vr,e1,h⟩:=h
 subst e1
 cases r with
 | cons r rr =>
  rw [hs]
  refine assignInOrder_cons (thn (h1 pins s σ H _ _ _ I r h) fun _ s1 ⟨σ1,H1,I1,q1⟩=>?_)
  exact h2 pins s1 σ1 H1 _ _ Q I1 rr q1
def gTup (K:PySem.W.Frag) (n:Nat) (t:TGs):TG:=fun v σ H Q=>∃ a xs,v=.ref a∧SqT K H a xs∧xs.length=n∧t xs σ H Q
theorem Ap {es:List Expr} {k:Nat} {t:TGs} {n:Nat} (hc:X.calm=true) (h:PGs X es t)
  (hn:(assignEach es X.env).length=n:=by rfl) (hst:(assignEach es X.env).findIdx? (·.1)=none:=by rfl):PG X (.Tuple es k pos) (gTup X.K n t):=by
 intro pins s σ H v u Q I r hw
 obtain ⟨a,xs,e1,hq,hl,hw⟩:=hw
 subst e1
 cases r
 obtain ⟨its,rv,ht,hz⟩:=I.tuple hq
 refine assign_Tuple_tuple (I.ok.hd hc) ht (by simp [hn,← hl,rv.length]) hst fun h' hx=>?_
 have I1:Inv X pins σ H { s with heap:=h' }:=I.kept (t':=s.toks) fun b o e=>hx b o (Nat.ne_of_lt (Heap.lt_size e)) e
 exact h pins _ σ H xs _ Q I1 (by simpa using rv) hw
def gSub (to ti:TE) (t:TSet):TG:=fun v σ H Q=>to σ H fun o H1=>ti σ H1 fun i H2=>t o i v H2 fun H3=>Q σ H3
theorem zE {o i:Expr} {to ti:TE} {t:TSet} (ho:PE X o to) (hi:PE X i ti) (hs:PSet X t)
    (ha:∀ v,assign (.Subscript o i pos) X.env v=(do
      let ov←holding [v] (eval o X.env)
      let iv←holding [v,ov] (eval i X.env)
      standAt pos
      holding [v,ov,iv] (setItem ov iv v)
      release [v,ov,iv] []):=by intro _;rfl):PG X (.Subscript o i pos) (gSub to ti t):=by
  intro pins s σ H v u Q I r h
  rw [ha]
  refine wpAny_bind (wpAny_holding (thn (ho pins s σ H _ I h) fun ov s1 ⟨x,H1,I1,r1,q1⟩=>?_))
  refine wpAny_bind (wpAny_holding (thn (hi pins s1 σ H1 _ I1 q1) fun iv s2 ⟨y,H2,I2,r2,q2⟩=>?_))
  refine wpAny_bind (wpAny_standAt (wpAny_bind (wpAny_holding (thn (hs pins s2 σ H2 x y v ov iv u _ I2 r1 r2 r q2) fun _ s3 ⟨H3,I3,q3⟩=>?_))))
  exact wpAny_release ⟨σ,H3,I3,q3⟩
def tAsg (te:TE) (g:TG):TS:=fun D σ H=>te σ H fun x H1=>g x σ H1 D.nx
theorem uL {tg e:Expr} {te:TE} {g:TG} (he:PE X e te) (hg:PG X tg g) (hs:swapsWithSole [tg] e pos.line X.env=pure false:=by rfl) (hw:swappedStores [tg] e X.env=pure none:=by rfl)
  (h1:(assignEach [tg] X.env).map (·.2)=[assign tg X.env]:=by rfl):PS X (.Assign [tg] e pos) (tAsg te g):=by
 intro pins s σ H D I h
 refine wpAny_Assign_stores (thn (he pins s σ H _ I h) fun v s1 ⟨x,H1,I1,r1,q1⟩=>?_) hs hw
 rw [h1]
 exact thn (hg pins s1 σ H1 x v _ I1 r1 q1) fun _ s2 q=>q
theorem iM {i:Nat} {x:Str} {e:Expr} {te:TE} {pos':Pos} (hN:X.N.Nodup) (hi:X.N[i]?=some x) (hx:Loc X.env.scope x) (he:PE X e te) (hs:swapsWith e (some (.Name x pos')) pos.line X.env=pure false:=by rfl) (hf:X.fn x=true∨X.env.scope.names.lookup x=some .local :=by walk_at "v1") :
  PS X (.Assign [.Name x pos'] e pos) (tAsg te (qV i)):=by
 intro pins s σ H D I h
 refine wpAny_Assign_Name (thn (he pins s σ H _ I h) fun v s1 ⟨y,H1,I1,r1,q1⟩=>?_) hs
 exact gq I1 hN hi hx r1 (fun s2 I2=>⟨_,H1,I2,q1⟩) hf
def tPar (i j:Nat) (ta:TA):TS:=fun D σ H=>ta σ H fun vs H1=>∃ v w,vs=[v,w]∧D.nx ((σ.set i (some v)).set j (some w)) H1
theorem xZ {i j:Nat} {x y:Str} {a b:Expr} {ta:TA} {px py pt:Pos} {kt k2 pt2} (hc:X.calm=true) (hN:X.N.Nodup) (hi:X.N[i]?=some x) (hj:X.N[j]?=some y) (hij:i≠j)
  (hx:X.env.scope.names.lookup x=some .local) (hy:X.env.scope.names.lookup y=some .local) (ha:PA X [a,b] ta)
  (hw:swappedStores [.Tuple [.Name x px,.Name y py] kt pt] (.Tuple [a,b] k2 pt2) X.env=pure (some [x,y]))
  (hs:swapsWithSole [.Tuple [.Name x px,.Name y py] kt pt] (.Tuple [a,b] k2 pt2) pos.line X.env=pure false:=by rfl) :
  PS X (.Assign [.Tuple [.Name x px,.Name y py] kt pt] (.Tuple [a,b] k2 pt2) pos) (tPar i j ta):=by
 intro pins s σ H D I h
 rw [exec_Assign_arm]
 refine wpAny_bind (wpAny_standAt ?_)
 rw [hs]
 refine wpAny_bind (wpAny_pure ?_)
 rw [if_neg (by decide)]
 refine wpAny_bind (Tuple_ (thn (ha _ pins s σ H _ I h) fun us s1 ⟨vs,H1,I1,r1,q1⟩=>?_))
 obtain ⟨v,w,e1,q1⟩:=q1
 subst e1
 obtain ⟨u1,u2,rfl,rv,rw'⟩:∃ u1 u2,us=[u1,u2]∧RelV v u1∧RelV w u2:=by
  cases r1 with
  | cons p q =>
   cases q with
   | cons p' q' =>
    cases q'
    exact⟨_,_,rfl,p,p'⟩
 refine wpAny_newObj_type ?_ (by show 2≤sizeLine;decide)
 have I2:Inv X pins σ H1 { s1 with heap:=s1.heap.push { cls:=.type "tuple",data:=.seq [u1,u2].toArray } }:=I1.kept (t':=s1.toks) fun b o e=>Heap.get?_push_of_some _ e
 rw [hw]
 refine wpAny_bind (wpAny_pure ?_)
 show wpAny (model X.prog X.w) X.A (do rule "assign.swapped-stores";let items←unpackItems (.ref s1.heap.objs.size) 2 none;assignInOrder [fun v=>bindName X.env y v,fun v=>bindName X.env x v] items.reverse;pure Flow.next) _ _ _
 refine wpAny_bind (wpAny_rule (wpAny_bind (unpackItems_tuple (items:=#[u1,u2]) (I.ok.hd hc) (IsTup.new s1.heap _) fun h' hx'=>?_)))
 have I3:=I2.kept (h':=h') (t':=s1.toks) fun b o e=>hx' b o (Nat.ne_of_lt (Heap.lt_size e)) e
 show wpAny _ _ (assignInOrder [fun v=>bindName X.env y v,fun v=>bindName X.env x v] [u2,u1] >>= fun _=>pure Flow.next) _ _ _
 refine wpAny_bind (assignInOrder_cons (wpAny_bindName (gq I3 hN hj (.inl hy) rw' (fun s2 I4=>?_) (.inr hy))))
 refine assignInOrder_cons (wpAny_bindName (gq I4 hN hi (.inl hx) rv (fun s3 I5=>assignInOrder_nil (wpAny_pure ?_)) (.inr hx)))
 rw [List.set_comm _ _ (Ne.symm hij)] at I5
 exact⟨_,H1,I5,q1⟩
end
section
variable {X:Cx} {pos:Pos}
def yV (c:TT) (tb:TS):TS:=fun D σ H=>∃ W:Nat→St→Hp→Prop,(∃ m,W m σ H)∧∀ m σ H,W m σ H →
 c σ H fun b H1=>if b=true then ∃ N:St→Hp→Prop,(∀ σ' H',N σ' H'→∃ m',m' < m∧W m' σ' H')∧tb { D with nx:=N,ct:=N,bk:=D.nx } σ H1 else D.nx σ H1
theorem s0 {c:Expr} {body:List Stmt} {tc:TT} {tb:TS} (hp:PassesOwn (model X.prog X.w) X.A X.env X.xe) (hc:PT X c tc) (hb:PSs X body tb):PS X (.While c body [] pos) (yV tc tb):=by
 intro pins s σ H D I h
 obtain ⟨W,⟨m0,w0⟩,turn⟩:=h
 refine wpAny_While (codeAny_whileLoop (fun n s'=>∃ σ' H',Inv X pins σ' H' s'∧W n σ' H') ?_ m0 ⟨σ,H,I,w0⟩)
 rintro n s1 ⟨σ1,H1,I1,w1⟩
 refine wpAny_passesOwn hp (thn (hc pins s1 σ1 H1 _ I1 (turn n σ1 H1 w1)) fun b s2 ⟨H2,I2,q2⟩=>?_)
 cases b with
 | true =>
  obtain ⟨N,hN,q2⟩:=q2
  rw [if_pos rfl]
  refine wpAny_passesOwn hp (thn (hb pins s2 σ1 H2 _ I2 q2) fun f s3 q3=>?_)
  cases f with
  | next =>
   obtain ⟨σ3,H3,I3,n3⟩:=q3
   obtain ⟨m',hm,w3⟩:=hN σ3 H3 n3
   exact⟨m',hm,σ3,H3,I3,w3⟩
  | cont =>
   obtain ⟨σ3,H3,I3,n3⟩:=q3
   obtain ⟨m',hm,w3⟩:=hN σ3 H3 n3
   exact⟨m',hm,σ3,H3,I3,w3⟩
  | brk=>exact q3
  | ret v=>exact q3
 | false =>
  rw [if_neg Bool.false_ne_true]
  exact wpAny_execs_nil ⟨σ1,H2,I2,q2⟩
end
structure It where
 go:Nat→Hp→Prop
 yld:Nat→Hp→V→Hp→Prop
 stop:Nat→Hp→Prop
def FpOk (X:Cx) (pins:List (Addr×Obj)) (H:Hp) (b:Addr):Prop :=
 H b=none∧b≠X.env.locals∧b∉X.fs∧(b∈X.ex∨X.s₀.heap.objs.size≤b)∧(∀ x c,X.env.cells.lookup x=some c→c≠b)∧∀ p∈X.pn++pins,p.1≠b
theorem Inv.fpOk {X:Cx} {pins:List (Addr×Obj)} {σ:St} {H H':Hp} {s:Shared} {b:Addr} (I:Inv X pins σ H s) (hb:s.heap.objs.size≤b) (hn:H' b=none):FpOk X pins H' b:=by
 refine⟨hn,Nat.ne_of_gt (Nat.lt_of_lt_of_le I.lt hb),I.nofs hb,.inr (Nat.le_trans I.sz hb),fun x c e z=>?_,fun p hp z=>?_⟩
 ·obtain ⟨v,q⟩:=I.cell x c e
  exact absurd (Nat.lt_of_lt_of_le q.lt (by rw [z];exact hb)) (Nat.lt_irrefl _)
 ·exact absurd (Nat.lt_of_lt_of_le (Heap.lt_size (I.pin p hp).1) (by rw [z];exact hb)) (Nat.lt_irrefl _)
structure Turn (P:Program) (w:World) (K:PySem.W.Frag) (tg:Expr) (J:It) (fp:List Addr) (it:Addr) (tn:Nat→Heap→Prop):Prop where
 mem:it∈fp
 obj:∀ i h,tn i h→∀ b∈fp,∃ o,h.get? b=some o∧∀ v,o.data≠.cell v
 keep:∀ i h h',tn i h→(∀ b∈fp,∀ o,h.get? b=some o→h'.get? b=some o)→tn i h'
 item:∀ (X:Cx),X.prog=P→X.w=w→X.K=K→X.calm=true→∀ (i:Nat) (pins:List (Addr×Obj)) (s:Shared) (σ:St) (H:Hp) (E:Value→Shared→Prop),Inv X pins σ H s→(∀ b∈fp,FpOk X pins H b)→tn i s.heap→J.go i H →
  wpAny (model P w) X.A (pyNext (.ref it)) (fun r s1=>∃ u,r=some u ∧
   wpAny (model P w) X.A (letOwnedTupleGo tg (.ref it) u) (fun _ s2=>∃ x H',Inv X pins σ H' s2∧RelV x u∧J.yld i H x H'∧tn (i + 1) s2.heap∧∀ b∈fp,H' b=none) E s1) E s
 done:∀ (X:Cx),X.prog=P→X.w=w→X.K=K→X.calm=true→∀ (i:Nat) (pins:List (Addr×Obj)) (s:Shared) (σ:St) (H:Hp) (E:Value→Shared→Prop),Inv X pins σ H s→(∀ b∈fp,FpOk X pins H b)→tn i s.heap→J.stop i H →
  wpAny (model P w) X.A (pyNext (.ref it)) (fun r s1=>r=none∧Inv X pins σ H s1) E s
 self:∀ (A:Around) (i:Nat) (s:Shared) (Q:Value→Shared→Prop) (E:Value→Shared→Prop),tn i s.heap→Q (.ref it) s→wpAny (model P w) A (pyIter (.ref it)) Q E s
abbrev TI:=St→Hp→(It→Hp→Prop)→Prop
def PIE (X:Cx) (pins:List (Addr×Obj)) (σ:St) (tg:Expr) (R:It→Hp→Prop) (itv:Value) (s2:Shared):Prop :=
 ∃ (it:Addr) (fp:List Addr) (tn:Nat→Heap→Prop) (J:It) (H':Hp),itv=.ref it∧Inv X pins σ H' s2∧Turn X.prog X.w X.K tg J fp it tn∧tn 0 s2.heap∧(∀ b∈fp,FpOk X pins H' b)∧R J H'
def PI (X:Cx) (tg iter:Expr) (wi:TI):Prop :=
 ∀ (pins:List (Addr×Obj)) (s:Shared) (σ:St) (H:Hp) (R:It→Hp→Prop),Inv X pins σ H s→wi σ H R →
  wpAny (model X.prog X.w) X.A (eval iter X.env) (fun v s1=>wpAny (model X.prog X.w) X.A (pyIter v) (PIE X pins σ tg R) X.xe s1) X.xe s
theorem rC {M:Model} {A:Around} {E:Value→Shared→Prop} {s:Shared} {tg:Expr} {it:Addr} {u:Value} {o:Obj} {n:String} {vs:Array Value} {Q:Unit→Shared→Prop} (ho:s.heap.get? it=some o) (hc:o.cls=.type n) (hd:o.data=.fields vs)
    (hn:["enumerate","zip","dict_itemiterator","dict_reverseitemiterator","odict_iterator","itertools.zip_longest","itertools.pairwise"].contains n=false) (hQ:Q () s):wpAny M A (letOwnedTupleGo tg (.ref it) u) Q E s:=by
  unfold letOwnedTupleGo
  cases tg<;>first
    | exact wpAny_pure hQ
    | (cases u<;>first
        | exact wpAny_pure hQ
        | (refine wpAny_bind (wpAny_load ho ?_)
           rw [hc,hd]
           show wpAny M A (if (["enumerate","zip","dict_itemiterator","dict_reverseitemiterator","odict_iterator","itertools.zip_longest","itertools.pairwise"].contains n && vs[0]? == some (rawInt _))=true then _ else _) Q E s
           rw [if_neg (by intro h;rw [hn,Bool.false_and] at h;cases h)]
           exact wpAny_pure hQ))
def Itl (K:PySem.W.Frag) (a:Addr):It :=
 ⟨fun i H=>∃ xs x,SqL K H a xs∧xs[i]?=some x,fun i H x H'=>H'=H∧∀ xs,SqL K H a xs→xs[i]?=some x,fun i H=>∃ xs,SqL K H a xs∧xs.length≤i⟩
def Itt (K:PySem.W.Frag) (a:Addr):It :=
 ⟨fun i H=>∃ xs x,SqT K H a xs∧xs[i]?=some x,fun i H x H'=>H'=H∧∀ xs,SqT K H a xs→xs[i]?=some x,fun i H=>∃ xs,SqT K H a xs∧xs.length≤i⟩
def Itr (lo:Int) (n:Nat):It:=⟨fun i _=>i < n,fun i H x H'=>H'=H∧x=.int (lo + i),fun i _=>n≤i⟩
theorem kF {P:Program} {w:World} {K:PySem.W.Frag} {tg:Expr} (a it:Addr):Turn P w K tg (Itl K a) [it] it (fun i h=>h.IsListIter it a i) where
 mem:=by simp
 obj:=fun i h st b hb=>by
  have e:b=it:=by simpa using hb
  subst e
  obtain ⟨o,e,c,d⟩:=st
  exact⟨o,e,fun v z=>by rw [d] at z;cases z⟩
 keep:=fun i h h' st k=>st.at fun o e=>k it (by simp) o e
 item:=by
  intro X hP hw hK hc i pins s σ H E I hf st hg
  subst hP hw hK
  obtain ⟨xs,x,hq,hx⟩:=hg
  obtain ⟨its,rv,p,hz⟩:=I.list hq
  obtain ⟨u,hu,ru⟩:=rv.get hx
  obtain ⟨f0,f1,f2,f3,f4,f5⟩:=hf it (by simp)
  refine wpAny_pyNext_list_item st p.isList (x:=u) (by simpa using hu) fun h' st' sb=>?_
  have I1:Inv X pins σ H { s with heap:=h' }:=I.turned (t':=s.toks) (fun b o hb e=>(sb.2 b hb).trans e) f0 f1 f3 f4 f5
  obtain ⟨o,e,c,d⟩:=id st'
  exact⟨u,rfl,rC (s:={ s with heap:=h' }) e c d (by decide) ⟨x,H,I1,ru,⟨rfl,fun ys hy=>by rw [I.list_inj hy hq];exact hx⟩,st',fun b hb=>(hf b hb).1⟩⟩
 done:=by
  intro X hP hw hK hc i pins s σ H E I hf st hg
  subst hP hw hK
  obtain ⟨xs,hq,hx⟩:=hg
  obtain ⟨its,rv,p,hz⟩:=I.list hq
  obtain ⟨f0,f1,f2,f3,f4,f5⟩:=hf it (by simp)
  have hl:=rv.length
  exact wpAny_pyNext_list_end (I.ok.hd hc) st p.isList (by simp;omega) fun h' eb=>⟨rfl,I.turned (t':=s.toks) (fun b o hb e=>eb b o hb e) f0 f1 f3 f4 f5⟩
 self:=fun _ _ _ _ _ st h=>wpAny_pyIter_listiter st h
theorem iW {P:Program} {w:World} {K:PySem.W.Frag} {tg:Expr} (a it:Addr):Turn P w K tg (Itt K a) [it] it (fun i h=>h.IsTupleIter it a i) where
 mem:=by simp
 obj:=fun i h st b hb=>by
  have e:b=it:=by simpa using hb
  subst e
  obtain ⟨o,e,c,d⟩:=st
  exact⟨o,e,fun v z=>by rw [d] at z;cases z⟩
 keep:=fun i h h' st k=>st.at fun o e=>k it (by simp) o e
 item:=by
  intro X hP hw hK hc i pins s σ H E I hf st hg
  subst hP hw hK
  obtain ⟨xs,x,hq,hx⟩:=hg
  obtain ⟨its,rv,p,hz⟩:=I.tuple hq
  obtain ⟨u,hu,ru⟩:=rv.get hx
  obtain ⟨f0,f1,f2,f3,f4,f5⟩:=hf it (by simp)
  refine wpAny_pyNext_tuple_item st (show s.heap.IsTuple a its.toArray from p) (x:=u) (by simpa using hu) fun h' st' sb=>?_
  have I1:Inv X pins σ H { s with heap:=h' }:=I.turned (t':=s.toks) (fun b o hb e=>(sb.2 b hb).trans e) f0 f1 f3 f4 f5
  obtain ⟨o,e,c,d⟩:=id st'
  exact⟨u,rfl,rC (s:={ s with heap:=h' }) e c d (by decide) ⟨x,H,I1,ru,⟨rfl,fun ys hy=>by rw [I.tuple_inj hy hq];exact hx⟩,st',fun b hb=>(hf b hb).1⟩⟩
 done:=by
  intro X hP hw hK hc i pins s σ H E I hf st hg
  subst hP hw hK
  obtain ⟨xs,hq,hx⟩:=hg
  obtain ⟨its,rv,p,hz⟩:=I.tuple hq
  obtain ⟨f0,f1,f2,f3,f4,f5⟩:=hf it (by simp)
  have hl:=rv.length
  exact wpAny_pyNext_tuple_end (I.ok.hd hc) st (show s.heap.IsTuple a its.toArray from p) (by simp;omega) fun h' eb=>⟨rfl,I.turned (t':=s.toks) (fun b o hb e=>eb b o hb e) f0 f1 f3 f4 f5⟩
 self:=fun _ _ _ _ _ st h=>wpAny_pyIter_tupleiter st h
theorem pA {P:Program} {w:World} {K:PySem.W.Frag} {tg:Expr} (it:Addr) (lo:Int) (n:Nat):Turn P w K tg (Itr lo n) [it] it (fun i h=>IsRangeIter h it (lo + (i:Nat) * 1) ((n:Int) - (i:Nat)) 1) where
 mem:=by simp
 obj:=fun i h st b hb=>by
  have e:b=it:=by simpa using hb
  subst e
  exact⟨_,st,fun v z=>by
   have z':Data.fields _=Data.cell v:=z
   cases z'⟩
 keep:=fun i h h' st k=>k it (by simp) _ st
 item:=by
  intro X hP hw hK hc i pins s σ H E I hf st hg
  subst hP hw hK
  obtain ⟨f0,f1,f2,f3,f4,f5⟩:=hf it (by simp)
  have W:=Walks.range (prog:=X.prog) (w:=X.w) (I.ok.hd hc) it lo 1 n
  refine W.item i s _ _ hg st fun v h' tk hv st' kk=>?_
  obtain ⟨t,rfl⟩:=hv
  have I1:Inv X pins σ H { s with heap:=h',toks:=tk }:=I.turned (fun b o hb e=>kk b o (by simpa using hb) e) f0 f1 f3 f4 f5
  refine⟨_,rfl,rC (s:={ s with heap:=h',toks:=tk }) (n:="range_iterator") st' rfl rfl (by decide) ⟨.int (lo + i),H,I1,⟨t,?_⟩,⟨rfl,rfl⟩,st',fun b hb=>(hf b hb).1⟩⟩
  rw [Int.mul_one]
 done:=by
  intro X hP hw hK hc i pins s σ H E I hf st hg
  subst hP hw hK
  obtain ⟨f0,f1,f2,f3,f4,f5⟩:=hf it (by simp)
  exact wpAny_pyNext_range_end (I.ok.hd hc) st (by have:n≤i:=hg;omega) fun h' eb=>⟨rfl,I.turned (t':=s.toks) (fun b o hb e=>eb b o hb e) f0 f1 f3 f4 f5⟩
 self:=fun _ _ _ _ _ st h=>wpAny_pyIter_rangeiter st h
end L2
namespace L2
open PySem PySem.Spec PyProof.Rows
section
variable {X:Cx} {tg:Expr}
def BC (K:PySem.W.Frag) (tl:TE):TI:=fun σ H R=>tl σ H fun x H1=>∃ a,x=.ref a∧(∃ xs,SqL K H1 a xs)∧R (Itl K a) H1
def iTup (K:PySem.W.Frag) (tl:TE):TI:=fun σ H R=>tl σ H fun x H1=>∃ a,x=.ref a∧(∃ xs,SqT K H1 a xs)∧R (Itt K a) H1
theorem qO {l:Expr} {tl:TE} (hl:PE X l tl):PI X tg l (BC X.K tl):=by
 intro pins s σ H R I h
 refine thn (hl pins s σ H _ I h) fun v s1 ⟨x,H1,I1,r1,q1⟩=>?_
 obtain ⟨a,e,⟨xs,hq⟩,q⟩:=q1
 subst e
 cases r1
 obtain ⟨its,rv,p,hz⟩:=I1.list hq
 refine wpAny_pyIter_list p.isList ?_
 refine⟨s1.heap.objs.size,[s1.heap.objs.size],_,_,H1,rfl,I1.kept (t':=s1.toks) fun b o e=>Heap.get?_push_of_some _ e,kF a _,⟨_,Heap.get?_push_size _ rfl,rfl,rfl⟩,fun b hb=>?_,q⟩
 have e:b=s1.heap.objs.size:=by simpa using hb
 subst e
 exact I1.fpOk (Nat.le_refl _) (I1.hok.fresh (Nat.le_refl _))
theorem vm {l:Expr} {tl:TE} (hl:PE X l tl):PI X tg l (iTup X.K tl):=by
 intro pins s σ H R I h
 refine thn (hl pins s σ H _ I h) fun v s1 ⟨x,H1,I1,r1,q1⟩=>?_
 obtain ⟨a,e,⟨xs,hq⟩,q⟩:=q1
 subst e
 cases r1
 obtain ⟨its,rv,p,hz⟩:=I1.tuple hq
 refine wpAny_pyIter_tuple (show s1.heap.IsTuple a its.toArray from p) ?_
 refine⟨s1.heap.objs.size,[s1.heap.objs.size],_,_,H1,rfl,I1.kept (t':=s1.toks) fun b o e=>Heap.get?_push_of_some _ e,iW a _,⟨_,Heap.get?_push_size _ rfl,rfl,rfl⟩,fun b hb=>?_,q⟩
 have e:b=s1.heap.objs.size:=by simpa using hb
 subst e
 exact I1.fpOk (Nat.le_refl _) (I1.hok.fresh (Nat.le_refl _))
theorem tN {pins:List (Addr×Obj)} {σ:St} {H:Hp} {s:Shared} {R:It→Hp→Prop} {E:Value→Shared→Prop} {lo hi:Int} {t u v:Tok} {tk:Nat} (I:Inv X pins σ H s) (h1:-(2 ^ 62)≤lo) (h2:lo < 2 ^ 62) (h3:-(2 ^ 62)≤hi) (h4:hi < 2 ^ 62)
  (q:R (Itr lo (hi - lo).toNat) H):wpAny (model X.prog X.w) X.A (pyIter (.ref s.heap.objs.size)) (PIE X pins σ tg R) E { s with heap:=s.heap.push { cls:=.type "range",data:=.fields #[.int lo t,.int hi u,.int 1 v] },toks:=tk }:=by
 refine wpAny_pyIter_range (IsRange.new ..) (small_one h1 h2 h3 h4) ?_
 have I1:Inv X pins σ H { s with heap:=s.heap.push { cls:=.type "range",data:=.fields #[.int lo t,.int hi u,.int 1 v] },toks:=tk }:=I.kept fun b o e=>Heap.get?_push_of_some _ e
 refine⟨(s.heap.push { cls:=.type "range",data:=.fields #[.int lo t,.int hi u,.int 1 v] }).objs.size,[(s.heap.push { cls:=.type "range",data:=.fields #[.int lo t,.int hi u,.int 1 v] }).objs.size],_,_,H,rfl,
  I1.kept (t':=tk) fun b o e=>Heap.get?_push_of_some _ e,pA _ lo (hi - lo).toNat,?_,fun b hb=>?_,q⟩
 ·have e1:lo + ((0:Nat):Int) * 1=lo:=by simp
  have e2:(((hi - lo).toNat:Nat):Int) - ((0:Nat):Int)=Builtin.Range.rangeSize lo hi 1:=by rw [rangeSize_one];split<;>omega
  show IsRangeIter _ _ (lo + ((0:Nat):Int) * 1) ((((hi - lo).toNat:Nat):Int) - ((0:Nat):Int)) 1
  rw [e1,e2]
  exact Heap.get?_push_size _ rfl
 ·have e:b=(s.heap.push { cls:=.type "range",data:=.fields #[.int lo t,.int hi u,.int 1 v] }).objs.size:=by simpa using hb
  subst e
  exact I1.fpOk (Nat.le_refl _) (I1.hok.fresh (Nat.le_refl _))
def Bn (ta:TA):TI:=fun σ H R=>ta σ H fun vs H1=>∃ j:Int,vs=[.int j]∧-(2 ^ 62)≤j∧j < 2 ^ 62∧R (Itr 0 j.toNat) H1
theorem kO {a:Expr} {ta:TA} {p pos:Pos} (hg:Gl X "range") (hm:X.mg "range"=none) (ha:PA X [a] ta) (hs:starEach [a] X.env=[(false,eval a X.env)]:=by rfl):PI X tg (.Call (.Name "range" p) [a] [] pos) (Bn ta):=by
 intro pins s σ H R I h
 refine Call_ (iw I hg hm boot_range (PyProof.Rows.callWith_type1 (thn (ha pos pins s σ H _ I h) fun us s1 ⟨vs,H1,I1,r1,q1⟩=>?_) hs rfl))
 obtain ⟨j,e,q1,q2,q⟩:=q1
 subst e
 cases r1 with
 | cons r rr =>
  cases rr
  obtain ⟨t,rfl⟩:=r
  exact call_range_1 (tN I1 (by omega) (by omega) q1 q2 (by simpa using q))
def tFor (wi:TI) (g:TG) (tb:TS):TS:=fun D σ H=>wi σ H fun J H1=>∃ W:Nat→Nat→St→Hp→Prop,(∃ m,W 0 m σ H1)∧∀ i m σ H,W i m σ H →
 (J.stop i H∧D.nx σ H)∨(J.go i H∧∃ N:St→Hp→Prop,(∀ σ' H',N σ' H'→∃ m',m' < m∧W (i + 1) m' σ' H')∧∀ x H',J.yld i H x H'→g x σ H' fun σ2 H2=>tb { D with nx:=N,ct:=N,bk:=D.nx } σ2 H2)
def kN (fp:List Addr) (h:Heap):List (Addr×Obj):=fp.filterMap fun b=>(h.get? b).map fun o=>(b,o)
theorem d5 {fp:List Addr} {h:Heap} {b:Addr} {o:Obj} (hb:b∈fp) (e:h.get? b=some o):(b,o)∈kN fp h:=List.mem_filterMap.mpr ⟨b,hb,by rw [e];rfl⟩
theorem pM {fp:List Addr} {h:Heap} {p:Addr×Obj} (hp:p∈kN fp h):p.1∈fp∧h.get? p.1=some p.2:=by
 obtain ⟨b,hb,e⟩:=List.mem_filterMap.mp hp
 cases q:h.get? b with
 | none=>rw [q] at e;cases e
 | some o =>
  rw [q] at e
  have e':(b,o)=p:=Option.some.inj e
  subst e'
  exact⟨hb,q⟩
theorem Inv.pinned {pins:List (Addr×Obj)} {σ:St} {H:Hp} {s:Shared} {fp:List Addr} (I:Inv X pins σ H s) (hf:∀ b∈fp,FpOk X pins H b) (ho:∀ b∈fp,∃ o,s.heap.get? b=some o∧∀ v,o.data≠.cell v):Inv X (pins++kN fp s.heap) σ H s :=
 I.pins_of fun p hp=>(List.mem_append.mp hp).elim (fun z=>I.pin p (List.mem_append_right _ z)) fun z=>by
  obtain ⟨hb,e⟩:=pM z
  obtain ⟨f0,f1,f2,_⟩:=hf p.1 hb
  obtain ⟨o,e',d⟩:=ho p.1 hb
  rw [e] at e';cases e'
  exact⟨e,f0,f1,f2,d⟩
theorem Inv.unpinned {pins pl:List (Addr×Obj)} {σ:St} {H:Hp} {s:Shared} (I:Inv X (pins++pl) σ H s):Inv X pins σ H s:=I.pins_of fun p hp=>I.pin p (List.mem_append_right _ (List.mem_append_left _ hp))
theorem mL {iter:Expr} {body:List Stmt} {wi:TI} {g:TG} {tb:TS} {pos:Pos} (hp:PassesOwn (model X.prog X.w) X.A X.env X.xe) (hc:X.calm=true) (hi:PI X tg iter wi) (hg:PG X tg g) (hb:PSs X body tb)
  (hs:∀ x,foldedSetIterable iter X.env x=pure x:=by intro _;rfl):PS X (.For tg iter body [] pos) (tFor wi g tb):=by
 intro pins s σ H D I h
 refine wpAny_For (thn (hi pins s σ H _ I h) fun v s1 h1=>thn h1 fun itv s2 h2=>?_) hs
 obtain ⟨it,fp,tn,J,H2,e,I2,T,st2,f2,W,⟨m0,w0⟩,turn⟩:=h2
 subst e
 have stat:∀ {H':Hp},(∀ b∈fp,H' b=none)→∀ b∈fp,FpOk X pins H' b:=fun hn b hb=>⟨hn b hb,(f2 b hb).2⟩
 refine codeAny_forLoop_any (fun n s'=>∃ i σ' H',Inv X pins σ' H' s'∧tn i s'.heap∧(∀ b∈fp,H' b=none)∧W i n σ' H') ?_ m0 ⟨0,σ,H2,I2,st2,fun b hb=>(f2 b hb).1,w0⟩
 rintro n s3 ⟨i,σ3,H3,I3,st3,fr3,w3⟩
 rcases turn i n σ3 H3 w3 with ⟨stop,qn⟩ | ⟨go,N,hN,step⟩
 ·refine wpAny_passesOwn hp (thn (T.done X rfl rfl rfl hc i pins s3 σ3 H3 X.xe I3 (stat fr3) st3 stop) fun r s4 ⟨hr,I4⟩=>?_)
  subst hr
  exact wpAny_execs_nil ⟨σ3,H3,I4,qn⟩
 ·refine wpAny_passesOwn hp (thn (T.item X rfl rfl rfl hc i pins s3 σ3 H3 X.xe I3 (stat fr3) st3 go) fun r s4 ⟨u,hr,h4⟩=>?_)
  subst hr
  refine wpAny_passesOwn hp (thn h4 fun _ s5 ⟨x,H5,I5,r5,y5,st5,fr5⟩=>?_)
  have I5':=I5.pinned (stat fr5) (T.obj _ _ st5)
  refine wpAny_passesOwn hp (thn (hg _ s5 σ3 H5 x u _ I5' r5 (step x H5 y5)) fun _ s6 ⟨σ6,H6,I6,q6⟩=>?_)
  refine wpAny_passesOwn hp (thn (hb _ s6 σ6 H6 _ I6 q6) fun f s7 q7=>?_)
  have again:∀ {σ7:St} {H7:Hp},Inv X (pins++kN fp s5.heap) σ7 H7 s7→N σ7 H7→∃ m,m < n∧∃ i σ' H',Inv X pins σ' H' s7∧tn i s7.heap∧(∀ b∈fp,H' b=none)∧W i m σ' H':=fun {σ7 H7} I7 n7=>by
   obtain ⟨m',hm,w7⟩:=hN σ7 H7 n7
   refine⟨m',hm,i + 1,σ7,H7,I7.unpinned,T.keep _ _ _ st5 fun b hb o e=>(I7.pin (b,o) (List.mem_append_right _ (List.mem_append_right _ (d5 hb e)))).1,fun b hb=>?_,w7⟩
   obtain ⟨o,e,d⟩:=T.obj _ _ st5 b hb
   exact (I7.pin (b,o) (List.mem_append_right _ (List.mem_append_right _ (d5 hb e)))).2.1
  cases f with
  | next=>obtain ⟨σ7,H7,I7,n7⟩:=q7;exact again I7 n7
  | cont=>obtain ⟨σ7,H7,I7,n7⟩:=q7;exact again I7 n7
  | brk=>obtain ⟨σ7,H7,I7,q7⟩:=q7;exact⟨σ7,H7,I7.unpinned,q7⟩
  | ret v=>obtain ⟨x7,σ7,H7,I7,r7,q7⟩:=q7;exact⟨x7,σ7,H7,I7.unpinned,r7,q7⟩
end
theorem rW {lo:Int} {n:Nat} {g:TG} {tb:TS} {D:Ends} {σ:St} {H:Hp} (Pv:Nat→St→Hp→Prop) (h0:Pv 0 σ H)
  (hs:∀ i σ H,i < n→Pv i σ H→g (.int (lo + i)) σ H fun σ2 H2=>tb { D with nx:=Pv (i + 1),ct:=Pv (i + 1),bk:=D.nx } σ2 H2) (hd:∀ σ H,Pv n σ H→D.nx σ H) :
  ∃ W:Nat→Nat→St→Hp→Prop,(∃ m,W 0 m σ H)∧∀ i m σ H,W i m σ H →
   ((Itr lo n).stop i H∧D.nx σ H)∨((Itr lo n).go i H∧∃ N:St→Hp→Prop,(∀ σ' H',N σ' H'→∃ m',m' < m∧W (i + 1) m' σ' H')∧∀ x H',(Itr lo n).yld i H x H'→g x σ H' fun σ2 H2=>tb { D with nx:=N,ct:=N,bk:=D.nx } σ2 H2):=by
 refine⟨fun i m σ H=>m=n - i∧i≤n∧Pv i σ H,⟨n,by simp,Nat.zero_le _,h0⟩,?_⟩
 rintro i m σ H ⟨rfl,hi,p⟩
 by_cases hlt:i < n
 ·refine .inr ⟨hlt,Pv (i + 1),fun σ' H' p'=>⟨n - (i + 1),by omega,rfl,hlt,p'⟩,fun x H' y=>?_⟩
  obtain ⟨e,y⟩:=y
  subst e y
  exact hs i σ _ hlt p
 ·have e:i=n:=by omega
  subst e
  exact .inl ⟨Nat.le_refl _,hd σ H p⟩
end L2
namespace L2
open PySem PySem.Spec PyProof.Rows
abbrev R2:=V→V→Hp→VK→Prop
def OpR (X:Cx) (f:Value→Value→Sem Value) (r:R2):Prop :=
 ∀ (pins:List (Addr×Obj)) (s:Shared) (σ:St) (H:Hp) (x y:V) (v u:Value) (Q:VK),Inv X pins σ H s→RelV x v→RelV y u→r x y H Q →
  wpAny (model X.prog X.w) X.A (f v u) (EP X pins σ Q) X.xe s
def UnR (X:Cx) (f:Value→Sem Value) (r:V→Hp→VK→Prop):Prop :=
 ∀ (pins:List (Addr×Obj)) (s:Shared) (σ:St) (H:Hp) (x:V) (v:Value) (Q:VK),Inv X pins σ H s→RelV x v→r x H Q →
  wpAny (model X.prog X.w) X.A (f v) (EP X pins σ Q) X.xe s
def cc (X:Cx) (f:Value) (r:List V→Hp→VK→Prop):Prop :=
 ∀ (pins:List (Addr×Obj)) (s:Shared) (σ:St) (H:Hp) (xs:List V) (us:List Value) (Q:VK),Inv X pins σ H s→Vals xs us→r xs H Q →
  wpAny (model X.prog X.w) X.A (call f us) (EP X pins σ Q) X.xe s
def tOp (r:R2) (ta tb:TE):TE:=fun σ H Q=>ta σ H fun x H1=>tb σ H1 fun y H2=>r x y H2 Q
def tUn (r:V→Hp→VK→Prop) (ta:TE):TE:=fun σ H Q=>ta σ H fun x H1=>r x H1 Q
def rI (C:Int→Int→Prop) (g:Int→Int→V):R2:=fun x y H Q=>∃ i j,x=.int i∧y=.int j∧C i j∧Q (g i j) H
def rI0 (g:Int→Int→V):R2:=fun x y H Q=>∃ i j,x=.int i∧y=.int j∧Q (g i j) H
def rU (g:Int→V):V→Hp→VK→Prop:=fun x H Q=>∃ i,x=.int i∧Q (g i) H
section
variable {X:Cx} {a b c:Expr} {ta tb tc:TE} {pos:Pos}
theorem binT (ha:PE X a ta) (hb:PE X b tb) {pins:List (Addr×Obj)} {s:Shared} {σ:St} {H:Hp} {R:V→V→Hp→Prop} (I:Inv X pins σ H s)
  (h:ta σ H fun x H1=>tb σ H1 fun y H2=>R x y H2) {Q:Value→Shared→Prop} {f:Value→Value→Sem Value}
  (hf:∀ v u s2 x y H2,Inv X pins σ H2 s2→RelV x v→RelV y u→R x y H2→wpAny (model X.prog X.w) X.A (f v u) Q X.xe s2) :
  wpAny (model X.prog X.w) X.A (eval a X.env) (fun v s₁=>wpAny (model X.prog X.w) X.A (eval b X.env) (fun u s₂=>wpAny (model X.prog X.w) X.A (f v u) Q X.xe s₂) X.xe s₁) X.xe s:=by
 refine thn (ha pins s σ H _ I h) fun v s1 ⟨x,H1,I1,r1,q1⟩=>?_
 refine thn (hb pins s1 σ H1 _ I1 q1) fun u s2 ⟨y,H2,I2,r2,q2⟩=>?_
 exact hf v u s2 x y H2 I2 r1 r2 q2
theorem AC {op:Operator} {r:R2} (ho:OpR X (binaryOp op) r) (ha:PE X a ta) (hb:PE X b tb):PE X (.BinOp a op b pos) (tOp r ta tb):=by
 intro pins s σ H Q I h
 exact wpAny_BinOp (binT ha hb I h fun v u s2 x y H2 I2 rx ry q=>ho pins s2 σ H2 x y v u Q I2 rx ry q)
theorem Br {op:UnaryOp} {r:V→Hp→VK→Prop} (ho:UnR X (unaryOp op) r) (ha:PE X a ta):PE X (.UnaryOp op a pos) (tUn r ta):=by
 intro pins s σ H Q I h
 exact UnaryOp_ (thn (ha pins s σ H _ I h) fun v s1 ⟨x,H1,I1,r1,q1⟩=>ho pins s1 σ H1 x v Q I1 r1 q1)
theorem opI {f:Value→Value→Sem Value} {C:Int→Int→Prop} {g:Int→Int→Int}
  (rule:∀ (i j:Int) (t u:Tok) (s:Shared) (Q:Value→Shared→Prop) (E:Value→Shared→Prop),C i j→Q (.int (g i j) s.toks) { s with toks:=s.toks + 1 }→wpAny (model X.prog X.w) X.A (f (.int i t) (.int j u)) Q E s) :
  OpR X f (rI C fun i j=>.int (g i j)):=by
 intro pins s σ H x y v u Q I rx ry h
 obtain ⟨i,j,rfl,rfl,hc,q⟩:=h
 obtain ⟨t,rfl⟩:=rx
 obtain ⟨t',rfl⟩:=ry
 exact rule i j t t' s _ _ hc ⟨.int (g i j),H,I.tok _,⟨_,rfl⟩,q⟩
theorem opI0 {f:Value→Value→Sem Value} {g:Int→Int→Int}
  (rule:∀ (i j:Int) (t u:Tok) (s:Shared) (Q:Value→Shared→Prop) (E:Value→Shared→Prop),Q (.int (g i j) s.toks) { s with toks:=s.toks + 1 }→wpAny (model X.prog X.w) X.A (f (.int i t) (.int j u)) Q E s) :
  OpR X f (rI0 fun i j=>.int (g i j)):=by
 intro pins s σ H x y v u Q I rx ry h
 obtain ⟨i,j,rfl,rfl,q⟩:=h
 obtain ⟨t,rfl⟩:=rx
 obtain ⟨t',rfl⟩:=ry
 exact rule i j t t' s _ _ ⟨.int (g i j),H,I.tok _,⟨_,rfl⟩,q⟩
theorem opB0 {f:Value→Value→Sem Value} {g:Int→Int→Bool}
  (rule:∀ (i j:Int) (t u:Tok) (s:Shared) (Q:Value→Shared→Prop) (E:Value→Shared→Prop),Q (.bool (g i j)) s→wpAny (model X.prog X.w) X.A (f (.int i t) (.int j u)) Q E s) :
  OpR X f (rI0 fun i j=>.bl (g i j)):=by
 intro pins s σ H x y v u Q I rx ry h
 obtain ⟨i,j,rfl,rfl,q⟩:=h
 obtain ⟨t,rfl⟩:=rx
 obtain ⟨t',rfl⟩:=ry
 exact rule i j t t' s _ _ ⟨.bl (g i j),H,I,rfl,q⟩
def CPow (i j:Int):Prop:=0≤j∧j≤1000000∧i.natAbs < 2 ^ 64
def CMul (i j:Int):Prop:=(-(2 ^ 64) < i∧i < 2 ^ 64)∨(-(2 ^ 64) < j∧j < 2 ^ 64)
theorem CMul.ok {i j:Int} (h:CMul i j):IntMulOk i j:=by
 rcases h with ⟨h1,h2⟩ | ⟨h1,h2⟩
 ·exact .of_left (intBits_le_64 h1 h2)
 ·exact .of_right (intBits_le_64 h1 h2)
theorem Au:OpR X (binaryOp .Add) (rI0 fun i j=>.int (i + j)):=opI0 fun _ _ _ _ _ _ _ q=>add_int q
theorem yR:OpR X (binaryOp .Sub) (rI0 fun i j=>.int (i - j)):=opI0 fun _ _ _ _ _ _ _ q=>sub_int q
theorem wJ:OpR X (binaryOp .Mod) (rI (fun _ j=>j≠0) fun i j=>.int (i.fmod j)):=opI fun _ _ _ _ _ _ _ hc q=>mod_int' hc q
theorem yz:OpR X (binaryOp .Pow) (rI CPow fun i j=>.int (i ^ j.toNat)):=opI fun _ _ _ _ _ _ _ hc q=>pow_int_small hc.1 hc.2.1 hc.2.2 q
theorem unI {f:Value→Sem Value} {g:Int→Int}
  (rule:∀ (i:Int) (t:Tok) (s:Shared) (Q:Value→Shared→Prop) (E:Value→Shared→Prop),Q (.int (g i) s.toks) { s with toks:=s.toks + 1 }→wpAny (model X.prog X.w) X.A (f (.int i t)) Q E s) :
  UnR X f (rU fun i=>.int (g i)):=by
 intro pins s σ H x v Q I rx h
 obtain ⟨i,rfl,q⟩:=h
 obtain ⟨t,rfl⟩:=rx
 exact rule i t s _ _ ⟨.int (g i),H,I.tok _,⟨_,rfl⟩,q⟩
theorem zc:UnR X (unaryOp .USub) (rU fun i=>.int (-i)):=unI fun _ _ _ _ _ q=>neg_int q
end
def scal:V→V→Bool
 | .non,.non=>true | .non,.int _=>true | .int _,.non=>true | .non,.bl _=>true | .bl _,.non=>true | .non,.str _=>true | .str _,.non=>true
 | .int _,.int _=>true | .bl _,.bl _=>true | .str _,.str _=>true | .byt _,.byt _=>true
 | .int _,.str _=>true | .str _,.int _=>true | .bl _,.str _=>true | .str _,.bl _=>true
 | _,_=>false
def rEq:R2:=fun x y H Q=>scal x y=true∧Q (.bl (decide (x=y))) H
def rNe:R2:=fun x y H Q=>scal x y=true∧Q (.bl (!decide (x=y))) H
theorem ln {i j:Int}:decide (V.int i=V.int j)=(i == j):=by
 rw [Bool.eq_iff_iff]
 simp
theorem sD {i j:Bool}:decide (V.bl i=V.bl j)=(i == j):=by
 rw [Bool.eq_iff_iff]
 simp
theorem mE {i j:Str}:decide (V.str i=V.str j)=(i == j):=by
 rw [Bool.eq_iff_iff]
 simp
theorem rh {i j:Array UInt8}:decide (V.byt i=V.byt j)=(i.toList == j.toList):=by
 rw [Bool.eq_iff_iff]
 cases i
 cases j
 simp
section
variable {X:Cx} {a b c:Expr} {ta tb tc:TE} {pos:Pos}
theorem aT {pins:List (Addr×Obj)} {σ:St} {H:Hp} {s:Shared} {Q:VK} {k k':Bool} (I:Inv X pins σ H s) (q:Q (.bl k) H) (e:k=k'):EP X pins σ Q (.bool k') s:=by
 subst e
 exact⟨.bl k,H,I,rfl,q⟩
theorem wz:OpR X (compareOp .Eq) rEq:=by
 intro pins s σ H x y v u Q I rx ry h
 obtain ⟨hs,q⟩:=h
 cases x with
 | non =>
  cases rx
  cases y with
  | non=>cases ry;exact PySem.EqNone.eq_none_none (aT I q (by simp))
  | bl j=>cases ry;exact PySem.EqNone.eq_none_bool (aT I q (by simp))
  | int j=>obtain ⟨t',rfl⟩:=ry;exact PySem.EqNone.eq_none_int (aT I q (by simp))
  | str j=>obtain ⟨t',rfl⟩:=ry;exact PySem.EqNone.eq_none_str (aT I q (by simp))
  | _=>exact absurd (show false=true from hs) Bool.false_ne_true
 | bl i =>
  cases rx
  cases y with
  | non=>cases ry;exact PySem.EqNone.eq_bool_none (aT I q (by simp))
  | bl j=>cases ry;exact eq_bool (aT I q sD)
  | str j=>obtain ⟨t',rfl⟩:=ry;exact PySem.EqMixed.eq_bool_str (aT I q (by simp))
  | _=>exact absurd (show false=true from hs) Bool.false_ne_true
 | int i =>
  obtain ⟨t,rfl⟩:=rx
  cases y with
  | non=>cases ry;exact PySem.EqNone.eq_int_none (aT I q (by simp))
  | int j=>obtain ⟨t',rfl⟩:=ry;exact eq_int (aT I q ln)
  | str j=>obtain ⟨t',rfl⟩:=ry;exact PySem.EqMixed.eq_int_str (aT I q (by simp))
  | _=>exact absurd (show false=true from hs) Bool.false_ne_true
 | str i =>
  obtain ⟨t,rfl⟩:=rx
  cases y with
  | non=>cases ry;exact PySem.EqNone.eq_str_none (aT I q (by simp))
  | bl j=>cases ry;exact PySem.EqMixed.eq_str_bool (aT I q (by simp))
  | int j=>obtain ⟨t',rfl⟩:=ry;exact PySem.EqMixed.eq_str_int (aT I q (by simp))
  | str j=>obtain ⟨t',rfl⟩:=ry;exact eq_str (aT I q mE)
  | _=>exact absurd (show false=true from hs) Bool.false_ne_true
 | byt i =>
  obtain ⟨t,rfl⟩:=rx
  cases y with
  | byt j=>obtain ⟨t',rfl⟩:=ry;exact PySem.W.eq_bytes (aT I q rh)
  | _=>exact absurd (show false=true from hs) Bool.false_ne_true
 | _=>cases y<;>exact absurd (show false=true from hs) Bool.false_ne_true
theorem xc:OpR X (compareOp .NotEq) rNe:=by
 intro pins s σ H x y v u Q I rx ry h
 obtain ⟨hs,q⟩:=h
 cases x with
 | non =>
  cases rx
  cases y with
  | non=>cases ry;exact PySem.EqNone.ne_none_none (aT I q (by simp))
  | bl j=>cases ry;exact PySem.EqNone.ne_none_bool (aT I q (by simp))
  | int j=>obtain ⟨t',rfl⟩:=ry;exact PySem.EqNone.ne_none_int (aT I q (by simp))
  | str j=>obtain ⟨t',rfl⟩:=ry;exact PySem.EqNone.ne_none_str (aT I q (by simp))
  | _=>exact absurd (show false=true from hs) Bool.false_ne_true
 | bl i =>
  cases rx
  cases y with
  | non=>cases ry;exact PySem.EqNone.ne_bool_none (aT I q (by simp))
  | bl j=>cases ry;exact ne_bool (aT I q (congrArg not sD))
  | str j=>obtain ⟨t',rfl⟩:=ry;exact PySem.EqMixed.ne_bool_str (aT I q (by simp))
  | _=>exact absurd (show false=true from hs) Bool.false_ne_true
 | int i =>
  obtain ⟨t,rfl⟩:=rx
  cases y with
  | non=>cases ry;exact PySem.EqNone.ne_int_none (aT I q (by simp))
  | int j=>obtain ⟨t',rfl⟩:=ry;exact ne_int (aT I q (congrArg not ln))
  | str j=>obtain ⟨t',rfl⟩:=ry;exact PySem.EqMixed.ne_int_str (aT I q (by simp))
  | _=>exact absurd (show false=true from hs) Bool.false_ne_true
 | str i =>
  obtain ⟨t,rfl⟩:=rx
  cases y with
  | non=>cases ry;exact PySem.EqNone.ne_str_none (aT I q (by simp))
  | bl j=>cases ry;exact PySem.EqMixed.ne_str_bool (aT I q (by simp))
  | int j=>obtain ⟨t',rfl⟩:=ry;exact PySem.EqMixed.ne_str_int (aT I q (by simp))
  | str j=>obtain ⟨t',rfl⟩:=ry;exact ne_str (aT I q (congrArg not mE))
  | _=>exact absurd (show false=true from hs) Bool.false_ne_true
 | byt i =>
  obtain ⟨t,rfl⟩:=rx
  cases y with
  | byt j=>obtain ⟨t',rfl⟩:=ry;exact PySem.W.ne_bytes (aT I q (congrArg not rh))
  | _=>exact absurd (show false=true from hs) Bool.false_ne_true
 | _=>cases y<;>exact absurd (show false=true from hs) Bool.false_ne_true
theorem Bf:OpR X (compareOp .Lt) (rI0 fun i j=>.bl (decide (i < j))):=opB0 fun _ _ _ _ _ _ _ q=>lt_int q
theorem Bv:OpR X (compareOp .LtE) (rI0 fun i j=>.bl (decide (i≤j))):=opB0 fun _ _ _ _ _ _ _ q=>le_int q
theorem A8:OpR X (compareOp .Gt) (rI0 fun i j=>.bl (decide (j < i))):=opB0 fun _ _ _ _ _ _ _ q=>gt_int q
theorem Bq:OpR X (compareOp .GtE) (rI0 fun i j=>.bl (decide (j≤i))):=opB0 fun _ _ _ _ _ _ _ q=>ge_int q
theorem yt:OpR X (compareOp .Is) (fun x y H Q=>y=.non∧Q (.bl (decide (x=.non))) H):=by
 intro pins s σ H x y v u Q I rx ry h
 obtain ⟨rfl,q⟩:=h
 cases ry
 refine is_none_gen (aT I q ?_)
 cases x<;>first
  | (cases rx;rfl)
  | (obtain ⟨t,rfl⟩:=rx;rfl)
theorem OpR.or {f:Value→Value→Sem Value} {r r':R2} (h:OpR X f r) (h':OpR X f r'):OpR X f (fun x y H Q=>r x y H Q∨r' x y H Q):=by
 intro pins s σ H x y v u Q I rx ry q
 rcases q with q | q
 ·exact h pins s σ H x y v u Q I rx ry q
 ·exact h' pins s σ H x y v u Q I rx ry q
theorem ar (b:Expr) {op:CmpOp} (h:op≠.In:=by decide) (h2:op≠.NotIn:=by decide):behindInMarks op b=false:=by
 have e1:(op == CmpOp.In)=false:=by cases op<;>first | rfl | exact absurd rfl h
 have e2:(op == CmpOp.NotIn)=false:=by cases op<;>first | rfl | exact absurd rfl h2
 cases b<;>simp [behindInMarks,e1,e2]
theorem wa {op:CmpOp} {r:R2} (ho:OpR X (compareOp op) r) (ha:PE X a ta) (hb:PE X b tb) (hm:behindInMarks op b=false):PE X (.Compare a [op] [b] pos) (tOp r ta tb):=by
 intro pins s σ H Q I h
 exact wpAny_Compare1 (binT ha hb I h fun v u s2 x y H2 I2 rx ry q=>ho pins s2 σ H2 x y v u Q I2 rx ry q) hm
def BB (t:TE):TT:=fun σ H Q=>t σ H fun x H'=>∃ k,x=.bl k∧Q k H'
theorem xB {op:CmpOp} {r:R2} (ho:OpR X (compareOp op) r) (ha:PE X a ta) (hb:PE X b tb) (hm:behindInMarks op b=false):PT X (.Compare a [op] [b] pos) (BB (tOp r ta tb)):=by
 intro pins s σ H Q I h
 refine wpAny_isTrue_Compare1 (thn (ha pins s σ H _ I h) fun v s1 ⟨x,H1,I1,r1,q1⟩=>thn (hb pins s1 σ H1 _ I1 q1) fun u s2 ⟨y,H2,I2,r2,q2⟩ =>
  thn (ho pins s2 σ H2 x y v u _ I2 r1 r2 q2) fun c s3 ⟨z,H3,I3,r3,k,e,q3⟩=>?_) hm
 subst e
 cases r3
 exact wpAny_truthy_bool ⟨H3,I3,q3⟩
theorem kz:(sizeLine:Nat) < 2 ^ 63:=by rw [sizeLine_eq];decide
theorem ge {x:V} {us:List Value} (r:Vals [x] us):∃ u,us=[u]∧RelV x u:=by
 cases r with
 | cons r1 r2=>cases r2;exact⟨_,rfl,r1⟩
theorem zf {x y:V} {us:List Value} (r:Vals [x,y] us):∃ u w',us=[u,w']∧RelV x u∧RelV y w':=by
 cases r with
 | cons r1 r2 =>
  cases r2 with
  | cons r3 r4=>cases r4;exact⟨_,_,rfl,r1,r3⟩
theorem ud:cc X (.builtin "abs") (fun xs H Q=>∃ i,xs=[.int i]∧Q (.int (if i < 0 then -i else i)) H):=by
 intro pins s σ H xs us Q I r h
 obtain ⟨i,rfl,q⟩:=h
 obtain ⟨u,rfl,t,rfl⟩:=ge r
 exact call_abs_int fun u tk=>⟨.int (if i < 0 then -i else i),H,I.tok _,⟨_,rfl⟩,q⟩
theorem rS (hc:X.calm=true):cc X (.builtin "min") (fun xs H Q=>∃ i j,xs=[.int i,.int j]∧Q (.int (if j < i then j else i)) H):=by
 intro pins s σ H xs us Q I r h
 obtain ⟨i,j,rfl,q⟩:=h
 obtain ⟨u,w',rfl,⟨t,rfl⟩,⟨t',rfl⟩⟩:=zf r
 refine min_two_ints (I.ok.hd hc) fun h' tk k=>⟨_,H,I.kept k,?_,q⟩
 by_cases hj:j < i
 ·rw [if_pos hj,if_pos hj];exact⟨_,rfl⟩
 ·rw [if_neg hj,if_neg hj];exact⟨_,rfl⟩
end
end L2
namespace L2
open PySem PySem.Spec PyProof.Rows
structure ObjM (h:Heap) (x dx C:Addr) (mA:Str→Option Value):Prop where
 obj:h.get? x=some (PySem.W.instObj C dx)
 ns:h.Ns1 dx mA
 ne:dx≠x
theorem sf {h:Heap} {dx:Addr} {mA:Str→Option Value} (n:h.Ns1 dx mA):∃ od,h.get? dx=some od∧∀ name,PySem.W.lookIn name od=some (mA name):=by
 obtain ⟨o,es,ep,ho,hd,hk,_,hm⟩:=n
 refine⟨o,ho,fun name=>?_⟩
 have e:=hm name
 unfold nsFind findBy at e
 rw [← Array.find?_toList] at e
 unfold PySem.W.lookIn
 rw [hd]
 dsimp only
 split
 ·rename_i y q
  rw [q] at e
  exact congrArg some e
 ·rename_i q
  rw [q] at e
  have a:es.toList.any (·.refKey)=false:=by
   rw [List.any_eq_false]
   intro y hy
   obtain ⟨z,t,hkey⟩:=hk y (Array.mem_toList_iff.mp hy)
   simp [DictEntry.refKey,hkey]
  have a':¬ es.toList.any (·.refKey)=true:=by rw [a];exact Bool.false_ne_true
  rw [if_neg a']
  exact congrArg some e
theorem ObjM.look {h:Heap} {x dx C:Addr} {mA:Str→Option Value} (I:ObjM h x dx C mA):∃ od,PySem.W.InstAt h x (PySem.W.instObj C dx) C (some od)∧∀ name,PySem.W.lookIn name od=some (mA name) :=
 let ⟨od,ho,hl⟩:=sf I.ns
 ⟨od,⟨I.obj,rfl,rfl,ho⟩,hl⟩
section
variable {prog:Program} {w:World} {A:Around} {E:Value→Shared→Prop} {s:Shared} {K:PySem.W.Frag} {x dx C f:Addr} {mA:Str→Option Value} {name:Str} {v:Value}
end
theorem RelO.some_of {v:V} {o:Option Value} (r:RelO (some v) o):∃ u,o=some u∧RelV v u:=by
 cases o with
 | none=>exact (show False from r).elim
 | some u=>exact⟨u,rfl,r⟩
section
variable {P:Program} {w:World} {H H':Hp} {h h':Heap} {a C dx:Addr} {fs fs':List (Str×V)}
theorem xL (hok:HOk P w H h) (e:H a=some (.ins C dx fs)):∃ mA,ObjM h a dx C mA∧(∀ f,RelO (fs.lookup f) (mA f))∧PySem.Within mA (fs.map (·.1))∧fs.length≤1000∧H dx=some (.own a):=by
 obtain ⟨d,z,ne,ob,mA,n,r,q⟩:=(show bH P w H h a (.ins C dx fs) from hok a _ e)
 exact⟨mA,⟨ob,n,ne⟩,r,q,z,d⟩
end
structure Cls (K:PySem.W.Frag) (C:Addr):Prop where
 pg:PySem.W.plainGet K C Str.empty=true
 hd:PySem.W.hasDictIn K C=true
 po:PySem.W.plainOver K C=true
 sa:PySem.W.findIn K (.ref C) "__setattr__"=some (some (.builtin "object.__setattr__"))
theorem Cls.get {K:PySem.W.Frag} {C:Addr} (c:Cls K C) (f:Str):PySem.W.plainGet K C f=true:=c.pg
section
variable {X:Cx} {pins:List (Addr×Obj)} {σ:St} {H:Hp} {s:Shared} {a C dx:Addr} {fs:List (Str×V)} {f:Str} {v:V} {A:Around} {E:Value→Shared→Prop}
end
section
variable {X:Cx} {o e value:Expr} {f:Str} {pos pos' tpos:Pos} {ta tv:TE}
end
section
variable {X:Cx} {pins:List (Addr×Obj)} {σ:St} {H:Hp} {s:Shared} {A:Around} {E:Value→Shared→Prop} {Q:Value→Shared→Prop} {c:Value} {b:Bool}
inductive TyOf (K:PySem.W.Frag) (H:Hp):V→Value→Prop where
 | non:TyOf K H .non (.type "NoneType")
 | bl (x:Bool):TyOf K H (.bl x) (.type "bool")
 | int (i:Int):TyOf K H (.int i) (.type "int")
 | str (x:Str):TyOf K H (.str x) (.type "str")
 | flt (x:UInt64):TyOf K H (.flt x) (.type "float")
 | lst {a:Addr} {xs:List V} (e:H a=some (.lst xs)):TyOf K H (.ref a) (.type "list")
 | frz {a:Addr} {o:Obj} {xs:List V} (e:H a=some (.frz o (.lst xs))):TyOf K H (.ref a) (.type "list")
 | tup {a:Addr} {xs:List V} (e:H a=some (.tup xs)):TyOf K H (.ref a) (.type "tuple")
 | dK {a:Addr} {kvs:List (Key×V)} (e:H a=some (.dK kvs)):TyOf K H (.ref a) (.type "dict")
 | dT {a:Addr} {kvs:List (List Key×V)} (e:H a=some (.dT kvs)):TyOf K H (.ref a) (.type "dict")
 | ins {a C dx:Addr} {fs:List (Str×V)} (e:H a=some (.ins C dx fs)) (cl:Cls K C) (ha:PySem.W.findIn K (.ref C) "__class__"=some (some (.builtin "object.__class__")))
   (hn:PySem.W.specialIn K (.builtin "object.__class__") "__get__"=some (some (.builtin "getset_descriptor.__get__"))) (htk:PySem.W.takesIn K (.builtin "object.__class__")=some true)
   (hm:PySem.W.mroIn K C (.type "object")=some true):TyOf K H (.ref a) (.ref C)
theorem cW {x:V} {u t:Value} (I:Inv X pins σ H s) (rx:RelV x u) (ty:TyOf X.K H x t) (e:PySem.W.kitOne X.K t c=some b) (h:∀ tk,Q (.bool b) { s with toks:=tk }) :
  wpAny (model X.prog X.w) A (call (.builtin "isinstance") [u,c]) Q E s:=by
 cases ty with
 | non=>cases (show u=Value.none from rx);exact PySem.W.kia_one PySem.W.kitx_none I.kIn True.intro e (fun z=>nomatch z) h
 | bl y=>cases (show u=Value.bool y from rx);exact PySem.W.kia_one PySem.W.kitx_bool I.kIn True.intro e (fun z=>nomatch z) h
 | int i=>obtain ⟨t,q⟩:=(show ∃ t,u=Value.int i t from rx);cases q;exact PySem.W.kia_one PySem.W.kitx_int I.kIn True.intro e (fun z=>nomatch z) h
 | str y=>obtain ⟨t,q⟩:=(show ∃ t,u=Value.str y t from rx);cases q;exact PySem.W.kia_one PySem.W.kitx_str I.kIn True.intro e (fun z=>nomatch z) h
 | flt y=>obtain ⟨t,q⟩:=(show ∃ t,u=Value.float y t from rx);cases q;exact PySem.W.kia_one PySem.W.kitx_float I.kIn True.intro e (fun z=>nomatch z) h
 | @lst a xs ea =>
  cases (show u=Value.ref a from rx)
  obtain ⟨_,_,n,_,h1⟩:=(show bH X.prog X.w H s.heap a (.lst xs) from I.hok a _ ea)
  exact PySem.W.kia_one PySem.W.kitx_list I.kIn ⟨_,h1,rfl⟩ e (fun z=>nomatch z) h
 | @frz a ob xs ea =>
  cases (show u=Value.ref a from rx)
  obtain ⟨_,_,_,n,_,h1⟩:=(show bH X.prog X.w H s.heap a (.frz ob (.lst xs)) from I.hok a _ ea)
  exact PySem.W.kia_one PySem.W.kitx_list I.kIn ⟨_,h1,rfl⟩ e (fun z=>nomatch z) h
 | @tup a xs ea =>
  cases (show u=Value.ref a from rx)
  obtain ⟨_,_,_,p⟩:=(show bH X.prog X.w H s.heap a (.tup xs) from I.hok a _ ea)
  obtain ⟨o,h1,h2,_⟩:=p
  exact PySem.W.kia_one PySem.W.kitx_tuple I.kIn ⟨o,h1,h2⟩ e (fun z=>nomatch z) h
 | @dK a kvs ea =>
  cases (show u=Value.ref a from rx)
  obtain ⟨_,_,vs,_,p⟩:=(show bH X.prog X.w H s.heap a (.dK kvs) from I.hok a _ ea)
  obtain ⟨o,es,ep,h1,h2,_⟩:=p
  exact PySem.W.kia_one PySem.W.kitx_dict I.kIn ⟨o,h1,h2.1⟩ e (fun z=>nomatch z) h
 | @dT a kvs ea =>
  cases (show u=Value.ref a from rx)
  obtain ⟨_,_,xs,_,o,es,ep,h1,h2,_⟩:=(show bH X.prog X.w H s.heap a (.dT kvs) from I.hok a _ ea)
  exact PySem.W.kia_one PySem.W.kitx_dict I.kIn ⟨o,h1,h2.1⟩ e (fun z=>nomatch z) h
 | @ins a C dx fs ea cl ha hn htk hm =>
  cases (show u=Value.ref a from rx)
  obtain ⟨mA,O,_⟩:=xL I.hok ea
  obtain ⟨od,J,_⟩:=O.look
  exact PySem.W.kia_one (PySem.W.kitx_own (cl.get _) cl.hd ha hn htk hm) I.kIn J e (fun z=>nomatch z) h
end
end L2
namespace L2
open PySem PySem.Spec PyProof.Rows
structure Room (k:Nat) (A:Around):Prop where
 hd:A.handled=none
 dp:A.depth + 3 * k + 5 < recursionLimit
 un:A.units + 16 * k + 200 < cLine
theorem Room.mono {j k:Nat} {A:Around} (r:Room k A) (h:j≤k):Room j A:=⟨r.hd,by have:=r.dp;omega,by have:=r.un;omega⟩
theorem Room.deeper {k:Nat} {A:Around} (r:Room (k + 1) A) (env:Env):Room k (A.deeper env) :=
 ⟨r.hd,by have:=r.dp;show A.depth + 1 + 3 * k + 5 < _;omega,by have:=r.un;show A.units + 3 + 16 * k + 200 < _;omega⟩
theorem Room.depth {k:Nat} {A:Around} (r:Room k A):A.depth < recursionLimit:=by have:=r.dp;omega
theorem Room.units {k:Nat} {A:Around} (r:Room k A):A.units + 64 < cLine:=by have:=r.un;omega
def tNil:TA:=fun _ H Q=>Q [] H
def Bi (ta:TE) (tr:TA):TA:=fun σ H Q=>ta σ H fun x H1=>tr σ H1 fun xs H2=>Q (x :: xs) H2
section
variable {X:Cx} {e:Expr} {es:List Expr} {te:TE} {t:TA} {pos:Pos}
theorem dy:PA X [] tNil:=fun _ _ _ _ H Q I h=>Calls.spliced_nil ⟨[],H,I,.nil,h⟩
theorem ba (ha:PE X e te) (hr:PA X es t) (hs:starEach (e :: es) X.env=(false,eval e X.env) :: starEach es X.env:=by rfl):PA X (e :: es) (Bi te t):=by
 intro pos pins s σ H Q I h
 rw [hs]
 show wpAny _ _ (spliced ((false,eval e X.env) :: backTo pos (starEach es X.env))) _ _ s
 refine Calls.spliced_cons (thn (ha pins s σ H _ I h) fun u s1 ⟨x,H1,I1,r1,q1⟩=>?_)
 exact thn (hr pos pins s1 σ H1 _ I1 q1) fun us s2 ⟨xs,H2,I2,r2,q2⟩=>⟨x :: xs,H2,I2,.cons r1 r2,q2⟩
def tTup (t:TA):TE:=fun σ H Q=>t σ H fun xs H1=>xs.length≤sizeLine∧∀ p,H1 p=none→Q (.ref p) (upd H1 p (.tup xs))
def tLst (t:TA):TE:=fun σ H Q=>t σ H fun xs H1=>xs.length≤sizeLine∧∀ p,H1 p=none→Q (.ref p) (upd H1 p (.lst xs))
theorem zV {x1} (h:PA X es t):PE X (.Tuple es x1 pos) (tTup t):=by
 intro pins s σ H Q I hq
 refine wpAny_Tuple_spliced (thn (h pos pins s σ H _ I hq) fun us s1 ⟨xs,H1,I1,r,z,q⟩=>⟨by rw [← r.length];exact z,?_⟩)
 have hf:H1 s1.heap.objs.size=none:=I1.hok.fresh (Nat.le_refl _)
 refine⟨.ref s1.heap.objs.size,upd H1 s1.heap.objs.size (.tup xs),I1.laid (t':=s1.toks) (fun b u e=>Heap.get?_push_of_some _ e) (Nat.le_refl _) ?_,rfl,q _ hf⟩
 exact⟨z,us,r,⟨_,Heap.get?_push_size _ rfl,rfl,_,rfl⟩⟩
theorem pE (h:PA X es t):PE X (.List es pos) (tLst t):=by
 intro pins s σ H Q I hq
 refine wpAny_List_spliced (thn (h pos pins s σ H _ I hq) fun us s1 ⟨xs,H1,I1,r,z,q⟩=>⟨by rw [← r.length];exact z,?_⟩)
 have hf:H1 s1.heap.objs.size=none:=I1.hok.fresh (Nat.le_refl _)
 refine⟨.ref s1.heap.objs.size,upd H1 s1.heap.objs.size (.lst xs),I1.laid (t':=s1.toks) (fun b u e=>Heap.get?_push_of_some _ e) (Nat.le_refl _) ?_,rfl,q _ hf⟩
 exact⟨z,us,0,r,Heap.get?_push_size _ rfl⟩
end
abbrev Sp:=List V→Hp→VK→XK→Prop
abbrev CXT:=List Env→Hp→Shared→XK→Value→Shared→Prop
structure Env0 (P:Program) (w:World) (K:PySem.W.Frag) (mg:Str→Option Value) (base:Heap) (A:Around) (outer:List Env) (s:Shared) (H:Hp):Prop where
 frames:A.frames=some outer
 mod:Mod K mg base
 bs:∀ b o,base.get? b=some o→s.heap.get? b=some o∧H b=none
 bsz:base.objs.size≤s.heap.objs.size
 funs:s.heap.FunFrames base outer
 frf:∀ b∈frs outer,H b=none
 hok:HOk P w H s.heap
 bare:AllBare s.gens
def CE (outer:List Env) (P:Program) (w:World) (H:Hp) (s:Shared) (Q:VK) (u:Value) (s':Shared):Prop :=
 ∃ v H',s'.os=s.os∧AllBare s'.gens∧Un (frs outer) [] H H' s.heap s'.heap∧HOk P w H' s'.heap∧RelV v u∧Q v H'
def CR (CX:CXT) (outer:List Env) (P:Program) (w:World) (H:Hp) (s:Shared) (Q:VK) (E:XK) (r:Result) (s':Shared):Prop :=
 match r with
 | .ok (.ret u)=>CE outer P w H s Q u s'
 | .ok _=>False
 | .error e=>CX outer H s E e s'
structure FnOk (P:Program) (w:World) (K:PySem.W.Frag) (mg:Str→Option Value) (base:Heap) (CX:CXT) (k:Nat) (f:Addr) (fd:FuncData) (ps:List Str) (sp:Sp):Prop where
 len:∀ vs H Q E,sp vs H Q E→vs.length=ps.length
 run:∀ (A:Around) (outer:List Env) (s:Shared) (H:Hp) (args:Args) (us:List Value) (vs:List V) (Q:VK) (E:XK),Room k A→Env0 P w K mg base A outer s H→BindsTo s fd args (ps.zip us)→Vals vs us→sp vs H Q E →
  codeAny (model P w) A (.call (.ref f) args) (CR CX outer P w H s Q E) s
theorem FnOk.mono {P:Program} {w:World} {K:PySem.W.Frag} {mg:Str→Option Value} {base:Heap} {CX:CXT} {j k:Nat} {f:Addr} {fd:FuncData} {ps:List Str} {sp:Sp} (F:FnOk P w K mg base CX j f fd ps sp) (h:j≤k) :
  FnOk P w K mg base CX k f fd ps sp:=⟨F.len,fun A outer s H args us vs Q E hr=>F.run A outer s H args us vs Q E (hr.mono h)⟩
theorem FnOk.imp {P:Program} {w:World} {K:PySem.W.Frag} {mg:Str→Option Value} {base:Heap} {CX:CXT} {k:Nat} {f:Addr} {fd:FuncData} {ps:List Str} {sp sp':Sp} (F:FnOk P w K mg base CX k f fd ps sp)
  (h:∀ vs H Q E,sp' vs H Q E→sp vs H Q E):FnOk P w K mg base CX k f fd ps sp' :=
 ⟨fun vs H Q E q=>F.len vs H Q E (h _ _ _ _ q),fun A outer s H args us vs Q E hr he hb hv hs=>F.run A outer s H args us vs Q E hr he hb hv (h _ _ _ _ hs)⟩
section
variable {X:Cx} {pins:List (Addr×Obj)} {σ:St} {H:Hp} {s s':Shared}
theorem Inv.env0 (I:Inv X pins σ H s):Env0 X.prog X.w X.K X.mg X.base X.A X.stack s H :=
 ⟨I.ok.frames,I.ok.mod,I.bs,Nat.le_trans I.ok.bsz I.sz,I.stack,I.stkFree,I.hok,I.bare⟩
theorem Inv.after {Q:VK} {u:Value} (I:Inv X pins σ H s) (h:CE X.stack X.prog X.w H s Q u s'):EP X pins σ Q u s':=by
 obtain ⟨v,H',os,bare,un,hok,r,q⟩:=h
 obtain ⟨hh,g,d,t,os'⟩:=s'
 obtain rfl:os'=s.os:=os
 exact⟨v,H',I.call (h':=hh) (g':=g) (d':=d) (t':=t) (ch:=[]) un hok bare (fun b z=>absurd z (by simp)),r,q⟩
end
def AN (sp:Sp) (dvs:List V) (E:XK) (t:TA):TE:=fun σ H Q=>t σ H fun vs H1=>sp (vs++dvs) H1 Q E
def jW (K:PySem.W.Frag) (fd:FuncData) (ps:List Str) (ds:List Value):Prop :=
 ∀ (s:Shared) (us:List Value),K.In s.heap→(us++ds).length=ps.length→BindsTo s fd ⟨us,[]⟩ (ps.zip (us++ds))
theorem jW.all {K:PySem.W.Frag} {fd:FuncData} {ps:List Str} (h:∀ us:List Value,us.length=ps.length→bindArgs fd ⟨us,[]⟩=pure (ps.zip us)):jW K fd ps []:=fun s us _ hl=>by
 rw [List.append_nil] at hl ⊢
 exact .of_eq (h us hl)
def qi (CX:CXT) (X:Cx) (E:XK):Prop:=∀ (pins:List (Addr×Obj)) (σ:St) (H:Hp) (s:Shared) (e:Value) (s':Shared),Inv X pins σ H s→CX X.stack H s E e s'→X.xe e s'
section
variable {X:Cx} {CX:CXT} {k:Nat} {f C:Addr} {fd:FuncData} {ps:List Str} {sp:Sp} {dvs:List V} {ds:List Value} {E:XK} {x m:Str} {p pos apos:Pos} {e o:Expr} {es:List Expr} {ta:TE} {t:TA}
theorem zd {pins:List (Addr×Obj)} {σ:St} {H:Hp} {s:Shared} {Q:VK} {us:List Value} {vs:List V} (F:FnOk X.prog X.w X.K X.mg X.base CX k f fd ps sp) (hr:Room k X.A) (hb:jW X.K fd ps ds) (hd:Vals dvs ds) (hx:qi CX X E)
  (I:Inv X pins σ H s) (r:Vals vs us) (h:sp (vs++dvs) H Q E):wpAny (model X.prog X.w) X.A (call (.ref f) us) (EP X pins σ Q) X.xe s:=by
 have r2:Vals (vs++dvs) (us++ds):=r.append hd
 have hl:(us++ds).length=ps.length:=by rw [← r2.length];exact F.len _ _ _ _ h
 refine wpAny_call (codeAny_mono (F.run X.A X.stack s H ⟨us,[]⟩ (us++ds) (vs++dvs) Q E hr I.env0 (hb s us I.kIn hl) r2 h) fun r s' hq=>?_)
 cases r with
 | error e=>exact hx pins σ H s e s' I hq
 | ok fl =>
  cases fl with
  | ret u=>exact I.after hq
  | next=>exact False.elim hq
  | brk=>exact False.elim hq
  | cont=>exact False.elim hq
theorem jg (F:FnOk X.prog X.w X.K X.mg X.base CX k f fd ps sp) (hr:Room k X.A) (hg:Gl X x) (hm:X.mg x=some (.ref f)) (hk:PySem.W.keepIn X.K (.ref f)=true) (hb:jW X.K fd ps ds) (hd:Vals dvs ds) (hx:qi CX X E)
  (ha:PA X (e :: es) t) (hdb:(x == ("__debug__":Str))=false:=by decide) (he:starEach (e :: es) X.env=(false,eval e X.env) :: starEach es X.env:=by rfl) (hpl:(backTo pos (starEach es X.env)).any (·.1)=false:=by rfl) :
  PE X (.Call (.Name x p) (e :: es) [] pos) (AN sp dvs E t):=by
 intro pins s σ H Q I h
 refine wpAny_Call_Name_kw (pN I hg hm ?_ hdb)
 refine PySem.W.callWith_K (h₀:=X.base) I.ok.mod.kin hk (thn (ha pos pins s σ H _ I h) fun us s1 ⟨vs,H1,I1,r,q⟩=>⟨I1.kIn,?_⟩) he hpl
 exact zd F hr hb hd hx I1 r q
end
section
variable {X:Cx} {CX:CXT} {k:Nat} {f C:Addr} {fd:FuncData} {ps ks:List Str} {sp:Sp} {E:XK} {x m:Str} {p pos apos kpos:Pos} {e o:Expr} {es:List Expr} {kws:List Keyword} {te ta:TE} {t tk:TA} {nm:Option Str}
variable {g:List Value→List Value→List Value} {gV:List V→List V→List V}
end
structure ax (N P:List Str) (sc:Scope):Prop where
 kind:sc.kind=.function
 co:sc.isCoroutine=false
 gen:sc.isGenerator=false
 nd:N.Nodup
 pre:N.take P.length=P
 par:∀ x∈P,sc.names.lookup x=some .local∨sc.names.lookup x=some .cell
 nofree:∀ y∈sc.names,y.2≠.free
theorem jY {kindOf:Str→Option NameKind} {x:Str}:∀ {binds:List (Str×Value)} {m:Str→Option Value},(∀ v,(x,v)∉binds)→bindL kindOf binds m x=m x
 | [],_,_=>rfl
 | (n,v) :: r,m,h=>by
  unfold bindL
  rw [jY fun w hw=>h w (List.mem_cons_of_mem _ hw)]
  split
  ·have:x≠n:=by rintro rfl;exact h v List.mem_cons_self
   simp [this]
  ·rfl
theorem jV {kindOf:Str→Option NameKind} {x:Str}:∀ {binds:List (Str×Value)} {m:Str→Option Value},(∀ v,(x,v)∉binds)→bindC kindOf binds m x=m x
 | [],_,_=>rfl
 | (n,v) :: r,m,h=>by
  unfold bindC
  rw [jV fun w hw=>h w (List.mem_cons_of_mem _ hw)]
  split
  ·rfl
  ·have:x≠n:=by rintro rfl;exact h v List.mem_cons_self
   simp [this]
theorem kK {kindOf:Str→Option NameKind} {x:Str} {v:Value}:∀ {P:List Str} {vs:List Value} {i:Nat} {m:Str→Option Value},P.Nodup→P[i]?=some x→vs[i]?=some v→kindOf x=some .local →
  bindL kindOf (P.zip vs) m x=some v
 | [],_,_,_,_,h,_,_=>by simp at h
 | _ :: _,[],_,_,_,_,h,_=>by simp at h
 | p :: P,w :: vs,0,m,nd,h1,h2,hk=>by
  simp at h1 h2;subst h1;subst h2
  show bindL kindOf ((p,w) :: P.zip vs) m p=_
  unfold bindL
  rw [jY fun v hv=>(List.nodup_cons.mp nd).1 (List.of_mem_zip hv).1,if_pos hk]
  simp
 | p :: P,w :: vs,i + 1,m,nd,h1,h2,hk=>by
  show bindL kindOf ((p,w) :: P.zip vs) m x=_
  unfold bindL
  exact kK (i:=i) (List.nodup_cons.mp nd).2 (by simpa using h1) (by simpa using h2) hk
theorem kQ {kindOf:Str→Option NameKind} {x:Str} {v:Value}:∀ {P:List Str} {vs:List Value} {i:Nat} {m:Str→Option Value},P.Nodup→P[i]?=some x→vs[i]?=some v→kindOf x≠some .local →
  bindC kindOf (P.zip vs) m x=some v
 | [],_,_,_,_,h,_,_=>by simp at h
 | _ :: _,[],_,_,_,_,h,_=>by simp at h
 | p :: P,w :: vs,0,m,nd,h1,h2,hk=>by
  simp at h1 h2;subst h1;subst h2
  show bindC kindOf ((p,w) :: P.zip vs) m p=_
  unfold bindC
  rw [jV fun v hv=>(List.nodup_cons.mp nd).1 (List.of_mem_zip hv).1,if_neg hk]
  simp
 | p :: P,w :: vs,i + 1,m,nd,h1,h2,hk=>by
  show bindC kindOf ((p,w) :: P.zip vs) m x=_
  unfold bindC
  exact kQ (i:=i) (List.nodup_cons.mp nd).2 (by simpa using h1) (by simpa using h2) hk
def start (N:List Str) (vs:List V):St:=vs.map some++List.replicate (N.length - vs.length) none
def cxOf (CX:CXT) (P:Program) (w:World) (K:PySem.W.Frag) (mg:Str→Option Value) (base:Heap) (N:List Str) (qual:Str) (scope:Scope) (f:Addr) (cd:Value) (A:Around) (outer:List Env) (s:Shared) (H:Hp) (E:XK):Cx where
 prog:=P
 w:=w
 K:=K
 mg:=mg
 base:=base
 A:=A.deeper (envOfC qual scope s.heap.objs.size f cd)
 N:=N
 s₀:=s
 H₀:=H
 env:=envOfC qual scope s.heap.objs.size f cd
 outer:=outer
 stack:=envOfC qual scope s.heap.objs.size f cd :: outer
 ex:=[]
 calm:=true
 fn:=fun _=>true
 pn:=[]
 xe:=fun e s'=>wpAny (model P w) (A.deeper (envOfC qual scope s.heap.objs.size f cd)) (leaving (envOfC qual scope s.heap.objs.size f cd) e) (fun _ s''=>CX outer H s E e s'') (fun e' s''=>CX outer H s E e' s'') s'
theorem nB {sc:Scope} {n:Nat} {x:Str} (h:sc.names.lookup x=some .cell):∃ c,(cellsFrom n sc.names []).lookup x=some c:=by
 have q:=PySem.W.cellsFrom_some sc.names n [] (.inl h)
 exact Option.isSome_iff_exists.mp q
theorem pS {CX:CXT} {P:Program} {w:World} {K:PySem.W.Frag} {mg:Str→Option Value} {base:Heap} {N ps:List Str} {qual:Str} {scope:Scope} {f:Addr} {cd:Value} {A:Around} {outer:List Env} {s s1:Shared} {H:Hp} {E:XK} {us:List Value} {vs:List V}
  (S:ax N ps scope) (hd:A.handled=none) (e0:Env0 P w K mg base A outer s H) (hl:vs.length=ps.length) (r:Vals vs us)
  (x:InCallC s s.heap.objs.size (bindL (envOfC qual scope s.heap.objs.size f cd).kindOf (ps.zip us) fun _=>none) (cellsFrom (s.heap.objs.size + 1) scope.names []) (bindC (envOfC qual scope s.heap.objs.size f cd).kindOf (ps.zip us) fun _=>none) s1) :
  Inv (cxOf CX P w K mg base N qual scope f cd A outer s H E) [] (start N vs) H s1:=by
 have hpl:ps.length≤N.length:=by have:=congrArg List.length S.pre;rw [List.length_take] at this;omega
 obtain ⟨h1,tk,rfl,hk⟩:=x.done
 have noA:∀ b:Addr,b∉(cxOf CX P w K mg base N qual scope f cd A outer s H E).ex:=fun b z=>absurd (show b∈([]:List Addr) from z) (by simp)
 refine⟨⟨e0.mod,S.kind,rfl,rfl,Nat.le_refl _,fun y z c h1 h2=>?_,fun y hy=>?_,fun y c _ h=>?_,fun _=>hd,Around.frames_deeper e0.frames,.inr ⟨rfl,rfl⟩,fun b z=>absurd z (noA b),e0.bs,e0.bsz,fun b _ _=>noA b,fun b z=>absurd z (noA b),e0.funs,e0.frf⟩,
  rfl,e0.bare,Un.kept hk,⟨_,x.toInCall.ns,fun i y v h1 h2 h3=>?_⟩,fun y c h=>⟨_,x.cell y c h⟩,e0.hok.fresh (Nat.le_refl _),fun y c h=>?_,fun p hp=>absurd (show p∈([]:List (Addr×Obj)) from hp) (by simp),e0.hok.kept hk,?_⟩
 ·exact name_of_addr x.apart (PySem.mem_of_lookup h1) (PySem.mem_of_lookup h2)
 ·have hy:scope.names.lookup y=some .cell∨scope.names.lookup y=some .free:=hy
  rcases hy with hy | hy
  ·exact nB hy
  ·exact absurd rfl (S.nofree _ (PySem.mem_of_lookup hy))
 ·exact Nat.le_of_lt (x.above y c (PySem.mem_of_lookup h))
 ·have hi:i < vs.length:=by
   unfold start at h2
   by_cases hi:i < vs.length
   ·exact hi
   ·rw [List.getElem?_append_right (by simpa using hi)] at h2
    rw [List.getElem?_replicate] at h2
    split at h2<;>cases h2
  have ha:vs[i]?=some v:=by
   unfold start at h2
   rw [List.getElem?_append_left (by simpa using hi),List.getElem?_map] at h2
   cases e:vs[i]? with
   | none=>rw [e] at h2;cases h2
   | some a=>rw [e] at h2;cases h2;rfl
  obtain ⟨u,hu,rv⟩:=r.get ha
  have hp:ps[i]?=some y:=by
   rw [← S.pre,List.getElem?_take_of_lt (by omega)];exact h1
  have ndP:ps.Nodup:=by rw [← S.pre];exact S.nd.sublist (List.take_sublist _ _)
  refine⟨u,rv,?_⟩
  rcases S.par y (List.mem_of_getElem? hp) with k | k
  ·exact .inl ⟨k,kK ndP hp hu k⟩
  ·obtain ⟨c,e⟩:=nB (n:=s.heap.objs.size + 1) k
   refine .inr ⟨.inl k,c,e,?_⟩
   have q:=x.cell y c e
   rw [kQ ndP hp hu (by show scope.names.lookup y≠_;rw [k];decide)] at q
   exact q
 ·exact e0.hok.fresh (Nat.le_of_lt (x.above y c (PySem.mem_of_lookup h)))
 ·unfold start
  show _=N.length
  rw [List.length_append,List.length_map,List.length_replicate]
  omega
theorem Bh {CX:CXT} {P:Program} {w:World} {K:PySem.W.Frag} {mg:Str→Option Value} {base:Heap} {k:Nat} {f:Addr} {name qual:Str} {params:Arguments} {body:List Stmt} {scope:Scope} {dV kV doc pm cdv ct oc:Value} {an od:Option Addr}
    {osl:Array (Option Value)} {N ps:List Str} {sp:Sp} (lk:K.lookup f=some ⟨oc,od,.func (PySem.W.fnOf name qual params body scope dV kV doc pm an cdv ct),osl⟩) (hcd:PySem.W.codeIn K cdv qual=true) (S:ax N ps scope)
    (len:∀ vs H Q E,sp vs H Q E→vs.length=ps.length)
    (hbody:∀ (A:Around) (outer:List Env) (s:Shared) (H:Hp) (vs:List V) (Q:VK) (E:XK),Room k (A.deeper (envOfC qual scope s.heap.objs.size f cdv))→sp vs H Q E →
      ∃ t,PSs (cxOf CX P w K mg base N qual scope f cdv A outer s H E) body t∧t { nx:=fun _ H'=>Q .non H',rt:=Q } (start N vs) H) :
    FnOk P w K mg base CX (k + 1) f (PySem.W.fnOf name qual params body scope dV kV doc pm an cdv ct) ps sp:=by
  refine⟨len,fun A outer s H args us vs Q E hr e0 hb r hsp=>?_⟩
  have hl:=len _ _ _ _ hsp
  have KX:K.In s.heap:=e0.mod.kin.keeps fun b o e=>(e0.bs b o e).1
  have lim:s.heap.NoLimit:=e0.mod.nolimit.keeps fun b o e=>(e0.bs b o e).1
  have hkind:∀ y∈ps.zip us,scope.names.lookup y.1=some .local∨(scope.names.lookup y.1=some .cell∧((cellsFrom (s.heap.objs.size + 1) scope.names []).lookup y.1).isSome=true):=fun ⟨n,v⟩ hy=>by
    rcases S.par n (List.of_mem_zip hy).1 with q | q
    · exact .inl q
    · exact .inr ⟨q,PySem.W.cellsFrom_some _ _ _ (.inl q)⟩
  refine codeAny_call_function hr.depth (KX _ _ lk) rfl S.co S.gen rfl (PySem.W.codeRec_of KX hcd) (hb _ _ _ _ ?_)
  refine wpAny_newFunctionEnv_cells S.kind hkind fun env he s1 x=>?_
  subst he
  refine⟨lim.keeps x.toInCall.keep,codeAny_func ?_⟩
  obtain ⟨t,ht,hq⟩:=hbody A outer s H vs Q E (hr.deeper _) hsp
  have I:Inv (cxOf CX P w K mg base N qual scope f cdv A outer s H E) [] (start N vs) H s1:=pS S hr.hd e0 hl r x
  refine wpAny_mono (ht [] s1 (start N vs) H _ I hq) (fun fl s' hs=>?_) fun e s' hs=>hs
  have fin:∀ {σ':St} {H':Hp} {v:V} {u:Value},Inv (cxOf CX P w K mg base N qual scope f cdv A outer s H E) [] σ' H' s'→RelV v u→Q v H'→CE outer P w H s Q u s' :=
    fun {σ' H' v u} J rv q=>⟨v,H',J.os,J.bare,J.base,J.hok,rv,q⟩
  cases fl with
  | ret u =>
    obtain ⟨v,σ',H',J,rv,q⟩:=hs
    exact fin J rv q
  | next =>
    obtain ⟨σ',H',J,q⟩:=hs
    exact fin (v:=V.non) (u:=Value.none) J rfl q
  | brk =>
    obtain ⟨_,_,_,q⟩:=hs
    exact False.elim q
  | cont =>
    obtain ⟨_,_,_,q⟩:=hs
    exact False.elim q
end L2
namespace L2
open PySem PySem.Spec PyProof.Rows
section
variable {X:Cx} {x:Str} {p pos:Pos} {e:Expr} {es:List Expr} {t:TA} {id T:String} {r:List V→Hp→VK→Prop}
def tCB (r:List V→Hp→VK→Prop) (t:TA):TE:=fun σ H Q=>t σ H fun vs H1=>r vs H1 Q
theorem jq (hc:cc X (.builtin id) r) (hg:Gl X x) (hm:X.mg x=none) (hv:bootBuiltins x=some (.builtin id)) (ha:PA X (e :: es) t) (hn:x≠"__name__":=by decide) (hdb:(x == ("__debug__":Str))=false:=by decide)
  (he:starEach (e :: es) X.env=(false,eval e X.env) :: starEach es X.env:=by rfl) (hpl:(backTo pos (starEach es X.env)).any (·.1)=false:=by rfl):PE X (.Call (.Name x p) (e :: es) [] pos) (tCB r t):=by
 intro pins s σ H Q I h
 refine wpAny_Call_Name_kw (iw I hg hm hv ?_ hn hdb)
 exact PyProof.Rows.callWith_builtin1 (thn (ha pos pins s σ H _ I h) fun us s1 ⟨vs,H1,I1,r1,q1⟩=>hc pins s1 σ H1 vs us Q I1 r1 q1) he hpl
theorem e7 (hc:cc X (.type T) r) (hg:Gl X x) (hm:X.mg x=none) (hv:bootBuiltins x=some (.type T)) (ha:PA X (e :: es) t) (hn:x≠"__name__":=by decide) (hdb:(x == ("__debug__":Str))=false:=by decide)
  (he:starEach (e :: es) X.env=(false,eval e X.env) :: starEach es X.env:=by rfl) (hpl:(backTo pos (starEach es X.env)).any (·.1)=false:=by rfl):PE X (.Call (.Name x p) (e :: es) [] pos) (tCB r t):=by
 intro pins s σ H Q I h
 refine wpAny_Call_Name_kw (iw I hg hm hv ?_ hn hdb)
 exact PyProof.Rows.callWith_type1 (thn (ha pos pins s σ H _ I h) fun us s1 ⟨vs,H1,I1,r1,q1⟩=>hc pins s1 σ H1 vs us Q I1 r1 q1) he hpl
end
end L2
namespace HT
open PySem PyProof.Rows
section
open PySem.SeqAt
open PySem.AutoSeq1 (wpAny_loadPart')
open PySem.MeetsSeq PySem.MeetsSeq2 PySem.MeetsSeq3
end
section
variable {prog:Program} {w:World} {A:Around} {E:Value→Shared→Prop} {s:Shared}
theorem cat_tup {t b:Addr} {vs ws:List Value} {Q:Value→Shared→Prop} (ht:IsTup s.heap t vs.toArray) (hb:IsTup s.heap b ws.toArray) (hv:vs≠[])
  (h1:ws=[]→Q (.ref t) s) (h2:ws≠[]→Q (.ref s.heap.objs.size) { s with heap:=s.heap.push { cls:=.type "tuple",data:=.seq (vs++ws).toArray } })
  (hsz:vs.length + ws.length≤sizeLine):wpAny (model prog w) A (binaryOp .Add (.ref t) (.ref b)) Q E s:=by
 obtain ⟨⟨cls,dd,data,sl⟩,ho,hc,n,hd⟩:=id ht
 obtain ⟨⟨cls2,dd2,data2,sl2⟩,ho2,hc2,n2,hd2⟩:=id hb
 simp only at hc hd hc2 hd2
 subst hc hd hc2 hd2
 have e:vs.toArray++ws.toArray=(vs++ws).toArray:=by simp
 by_cases hw:ws=[]
 ·exact concat_meets ⟨_,ho,rfl⟩ ⟨_,ho2,rfl⟩ noFill_tuple_add seq_tuple_add PySem.F.slot_tuple_add PySem.F.entry_tuple_add (PySem.F.args_tuple_add_2 _ _)
   (tuple_addW1 t b vs.toArray ws.toArray n n2 dd dd2 sl sl2 (by simpa using hv) (by simp [hw])) ⟨ho,ho2,h1 hw⟩
 ·refine concat_meets ⟨_,ho,rfl⟩ ⟨_,ho2,rfl⟩ noFill_tuple_add seq_tuple_add PySem.F.slot_tuple_add PySem.F.entry_tuple_add (PySem.F.args_tuple_add_2 _ _)
   (tuple_addW2 t b vs.toArray ws.toArray n n2 dd dd2 sl sl2 (by simpa using hv) (by simpa using hw) (by rw [List.size_toArray,List.size_toArray];exact hsz)) ⟨ho,ho2,?_⟩
  rw [e]
  exact h2 hw
def sIx (n d:Nat):Option Int→Nat
 | none=>d
 | some v=>if v < 0 then (v + (n:Int)).toNat else min v.toNat n
theorem sIx_none (n d:Nat):sIx n d none=d:=rfl
theorem sIx_nat (n d k:Nat):sIx n d (some (k:Int))=min k n:=by
 show (if (k:Int) < 0 then ((k:Int) + (n:Int)).toNat else min (k:Int).toNat n)=min k n
 rw [if_neg (by omega),Int.toNat_natCast]
theorem Aq (n d:Nat) (hd:d≤n) (o:Option Int):sIx n d o≤n:=by
 cases o with
 | none=>exact hd
 | some v =>
  show (if v < 0 then (v + (n:Int)).toNat else min v.toNat n)≤n
  by_cases hv:v < 0
  ·rw [if_pos hv];omega
  ·rw [if_neg hv];exact Nat.min_le_right _ _
theorem rG (v:Int) (n d:Nat):(if v < 0 then max (v + (n:Int)) 0 else min v (n:Int))=((sIx n d (some v):Nat):Int):=by
 show (if v < 0 then max (v + (n:Int)) 0 else min v (n:Int))=(((if v < 0 then (v + (n:Int)).toNat else min v.toNat n):Nat):Int)
 by_cases hv:v < 0
 ·simp only [if_pos hv];omega
 ·simp only [if_neg hv];omega
theorem oh (lo hi:Option Int) (n:Nat):Builtin.Slice.sliceAdjust lo hi 1 (n:Int)=(((sIx n 0 lo:Nat):Int),((sIx n n hi:Nat):Int)):=by
 have h1:¬ ((1:Int) < 0):=by omega
 unfold Builtin.Slice.sliceAdjust
 simp only [h1,if_false]
 refine Prod.ext ?_ ?_
 ·cases lo with
  | none=>rfl
  | some v=>exact rG v n 0
 ·cases hi with
  | none=>rfl
  | some v=>exact rG v n n
theorem oV (i j:Nat):Builtin.Slice.slicePlaces (i:Int) (j:Int) 1=j - i:=by
 unfold Builtin.Slice.slicePlaces
 have h1:(1:Int) > 0:=by omega
 simp only [h1,if_true,Int.ediv_one]
 split<;>omega
theorem iZ {v:Value} {o:Option Int} {Q:Option Int→Shared→Prop} (p:IsPart v o) (h:Q o s):wpAny (model prog w) A (Builtin.Slice.slicePartIndex v) Q E s:=by
 cases p with
 | none=>exact slicePart_none h
 | int i t=>exact slicePart_int h
theorem gd {sl:Addr} {vl vu:Value} {lo hi:Option Int} {n:Nat} {Q:Int×Int×Nat→Shared→Prop} (hs:s.heap.IsSliceOf sl vl vu .none) (pl:IsPart vl lo) (pu:IsPart vu hi)
  (h:Q (((sIx n 0 lo:Nat):Int),1,sIx n n hi - sIx n 0 lo) s):wpAny (model prog w) A (Builtin.Slice.sliceApplied (.ref sl) (pure (n:Int))) Q E s:=by
 obtain ⟨os,hos,hcs,hds⟩:=id hs
 unfold Builtin.Slice.sliceApplied Builtin.Slice.sliceFields
 refine wpAny_bind (wpAny_bind (wpAny_field hos hds (x:=vl) rfl (wpAny_bind (wpAny_field hos hds (x:=vu) rfl (wpAny_bind (wpAny_field hos hds (x:=.none) rfl (wpAny_pure ?_)))))))
 refine wpAny_bind (slicePart_none ?_)
 show wpAny _ _ (if ((1:Int) == 0)=true then _ else _) _ _ s
 rw [if_neg (by decide)]
 refine wpAny_bind (iZ pl (wpAny_bind (iZ pu (wpAny_bind (wpAny_pure ?_)))))
 show wpAny _ _ (match Builtin.Slice.sliceAdjust lo hi 1 (n:Int) with | (lo,hi)=>pure (lo,(1:Int),Builtin.Slice.slicePlaces lo hi 1)) _ _ s
 rw [oh lo hi n]
 show wpAny _ _ (pure (((sIx n 0 lo:Nat):Int),(1:Int),Builtin.Slice.slicePlaces ((sIx n 0 lo:Nat):Int) ((sIx n n hi:Nat):Int) 1)) _ _ s
 rw [oV]
 exact wpAny_pure h
theorem ue (xs:Array Value) (i k:Nat):((List.range k).filterMap fun (m:Nat)=>xs[((i:Int) + (m:Int) * 1).toNat]?).toArray=((xs.toList.drop i).take k).toArray:=by
 have e:(fun (m:Nat)=>xs[((i:Int) + (m:Int) * 1).toNat]?)=fun m=>xs[i + m]?:=by
  funext m
  have:((i:Int) + (m:Int) * 1).toNat=i + m:=by omega
  rw [this]
 rw [e]
 have:=pick_run xs i k
 rw [List.filterMap_map] at this
 have e2:((fun x=>xs[x]?) ∘ fun x=>i + x)=fun m=>xs[i + m]?:=rfl
 rw [e2] at this
 rw [this]
theorem getItem_tuple_cut {t sl:Addr} {items:Array Value} {vl vu:Value} {lo hi:Option Int} {Q:Value→Shared→Prop} (ht:IsTup s.heap t items) (hs:s.heap.IsSliceOf sl vl vu .none) (pl:IsPart vl lo) (pu:IsPart vu hi)
  (hw:¬ (sIx items.size 0 lo=0∧sIx items.size items.size hi=items.size))
  (h:Q (.ref s.heap.objs.size) { s with heap:=s.heap.push { cls:=.type "tuple",data:=.seq ((items.toList.drop (sIx items.size 0 lo)).take (sIx items.size items.size hi - sIx items.size 0 lo)).toArray } })
  (hsz:items.size≤sizeLine):wpAny (model prog w) A (getItem (.ref t) (.ref sl)) Q E s:=by
 have htake:sizeOk (.seq ((items.toList.drop (sIx items.size 0 lo)).take (sIx items.size items.size hi - sIx items.size 0 lo)).toArray):=by
  show ((items.toList.drop (sIx items.size 0 lo)).take (sIx items.size items.size hi - sIx items.size 0 lo)).toArray.size≤sizeLine
  rw [List.size_toArray,List.length_take,List.length_drop,Array.length_toList]
  omega
 have hj:sIx items.size items.size hi≤items.size:=Aq _ _ (Nat.le_refl _) hi
 obtain ⟨os,hos,hcs,hds⟩:=id hs
 have hTs:s.TypeIs (.ref sl) "slice":=⟨os,hos,hcs⟩
 unfold getItem
 try with_reducible refine wpAny_holding ?_
 first | refine wpAny_bind (wpAny_pure ?_) | skip
 refine wpAny_bind (wpAny_sequenceKey ht.typeIs (by decide) ?_)
 refine wpAny_bind (wpAny_callSpecial?_slot (name:=Str.ofString "__getitem__") ht.typeIs PyProof.Rows.slot_tuple_getitem
  (wpAny_call_entry PyProof.Rows.slot_tuple_getitem ht.typeIs entry_tuple_getitem ?_ (args_tuple_getitem _ _)))
 show wpAny _ _ (Builtin.Tuple.tupleItemsOf (.ref t) >>= _) _ _ s
 refine wpAny_bind (tupleItemsOf_ ht ?_)
 refine wpAny_bind (wpAny_typeOf hTs ?_)
 rw [if_pos (by decide)]
 refine wpAny_bind (gd hs pl pu ?_)
 have hno:¬ ((((sIx items.size 0 lo:Nat):Int) == 0 && (1:Int) == 1 && (sIx items.size items.size hi - sIx items.size 0 lo) == items.size)=true):=by
  intro q
  rw [Bool.and_eq_true,Bool.and_eq_true] at q
  have q1:((sIx items.size 0 lo:Nat):Int)=0:=eq_of_beq q.1.1
  have q2:sIx items.size items.size hi - sIx items.size 0 lo=items.size:=eq_of_beq q.2
  exact hw ⟨by omega,by omega⟩
 show wpAny _ _ (if (((sIx items.size 0 lo:Nat):Int) == 0 && (1:Int) == 1 && (sIx items.size items.size hi - sIx items.size 0 lo) == items.size)=true then _ else _) _ _ s
 rw [if_neg hno,ue]
 first
  | exact wpAny_bind (m:=Builtin.Tuple.tupleExact _) (wpAny_newObj_type (wpAny_pure ⟨_,rfl,wpAny_pure h⟩) htake)
  | exact wpAny_bind (m:=Builtin.Tuple.tupleExact _) (wpAny_newObj_type (wpAny_bind (wpAny_pure (wpAny_pure ⟨_,rfl,wpAny_pure h⟩))) htake)
  | exact wpAny_bind (wpAny_bind (m:=Builtin.Tuple.tupleExact _) (wpAny_newObj_type (wpAny_pure (wpAny_pure ⟨_,rfl,wpAny_pure h⟩)) htake))
  | exact wpAny_bind (wpAny_bind (m:=Builtin.Tuple.tupleExact _) (wpAny_newObj_type (wpAny_pure ⟨_,rfl,wpAny_pure h⟩) htake))
end
end HT
namespace L2
open PySem PySem.Spec PyProof.Rows
abbrev TO:=St→Hp→(Option Int→Hp→Prop)→Prop
def PO (X:Cx) (e:Option Expr) (t:TO):Prop :=
 ∀ (pins:List (Addr×Obj)) (s:Shared) (σ:St) (H:Hp) (Q:Option Int→Hp→Prop),Inv X pins σ H s→t σ H Q →
  wpAny (model X.prog X.w) X.A (evalPart e X.env) (fun u s'=>∃ o H',Inv X pins σ H' s'∧IsPart u o∧Q o H') X.xe s
def xv:TO:=fun _ H Q=>Q none H
def AL (t:TE):TO:=fun σ H Q=>t σ H fun x H1=>∃ i,x=.int i∧Q (some i) H1
section
variable {X:Cx} {e:Expr} {te:TE} {lo hi:Option Expr} {tl th:TO} {pos p2:Pos}
theorem wE:PO X none xv:=by
 intro pins s σ H Q I h
 rw [evalPart_none]
 exact wpAny_pure ⟨none,H,I,.none,h⟩
theorem xJ (h:PE X e te):PO X (some e) (AL te):=by
 intro pins s σ H Q I hw
 rw [evalPart_some]
 refine thn (h pins s σ H _ I hw) fun u s1 ⟨x,H1,I1,r1,q1⟩=>?_
 obtain ⟨i,rfl,q⟩:=q1
 obtain ⟨t,rfl⟩:=r1
 exact⟨some i,H1,I1,.int i t,q⟩
def SlR (X:Cx) (r:V→Option Int→Option Int→Hp→VK→Prop):Prop :=
 ∀ (pins:List (Addr×Obj)) (s:Shared) (σ:St) (H:Hp) (x:V) (v vl vu:Value) (lo hi:Option Int) (sl:Addr) (Q:VK),Inv X pins σ H s→RelV x v→s.heap.IsSliceOf sl vl vu .none→IsPart vl lo→IsPart vu hi→r x lo hi H Q →
  ∃ T id,typeLookup (.type T) "__getitem__"=pure (some (.builtin id))∧s.TypeIs v T∧wpAny (model X.prog X.w) X.A (getItem v (.ref sl)) (EP X pins σ Q) X.xe s
theorem SlR.or {r r':V→Option Int→Option Int→Hp→VK→Prop} (h:SlR X r) (h':SlR X r'):SlR X (fun x lo hi H Q=>r x lo hi H Q∨r' x lo hi H Q):=by
 intro pins s σ H x v vl vu lo hi sl Q I rx hs pl pu q
 rcases q with q | q
 ·exact h pins s σ H x v vl vu lo hi sl Q I rx hs pl pu q
 ·exact h' pins s σ H x v vl vu lo hi sl Q I rx hs pl pu q
def tSl (r:V→Option Int→Option Int→Hp→VK→Prop) (te:TE) (tl th:TO):TE:=fun σ H Q=>te σ H fun x H1=>tl σ H1 fun l H2=>th σ H2 fun u H3=>r x l u H3 Q
theorem m5 {r:V→Option Int→Option Int→Hp→VK→Prop} (hr:SlR X r) (he:PE X e te) (hl:PO X lo tl) (hu:PO X hi th):PE X (.Subscript e (.Slice lo hi none p2) pos) (tSl r te tl th):=by
 intro pins s σ H Q I h
 refine Subscript_ (thn (he pins s σ H _ I h) fun v s1 ⟨x,H1,I1,r1,q1⟩=>?_)
 refine wpAny_Slice (thn (hl pins s1 σ H1 _ I1 q1) fun vl s2 ⟨l,H2,I2,pl,q2⟩=>thn (hu pins s2 σ H2 _ I2 q2) fun vu s3 ⟨u,H3,I3,pu,q3⟩=>?_)
 rw [evalPart_none]
 refine wpAny_pure ?_
 have I4:Inv X pins σ H3 { s3 with heap:=s3.heap.push { cls:=.type "slice",data:=.fields #[vl,vu,.none] } }:=I3.kept (t':=s3.toks) fun b ob q=>Heap.get?_push_of_some _ q
 obtain ⟨T,id,hT,ht,hg⟩:=hr pins { s3 with heap:=s3.heap.push { cls:=.type "slice",data:=.fields #[vl,vu,.none] } } σ H3 x v vl vu l u s3.heap.objs.size Q I4 r1 (Heap.IsSliceOf.new ..) pl pu q3
 show wpAny (model X.prog X.w) X.A (subscriptTail e (.Slice lo hi none p2) v (.ref s3.heap.objs.size)) (EP X pins σ Q) X.xe { s3 with heap:=s3.heap.push { cls:=.type "slice",data:=.fields #[vl,vu,.none] } }
 exact tail_any (ops:=[.ref s3.heap.objs.size,v]) ht hT hg (by with_unfolding_all rfl)
def cutV (xs:List V) (lo hi:Option Int):List V:=(xs.drop (HT.sIx xs.length 0 lo)).take (HT.sIx xs.length xs.length hi - HT.sIx xs.length 0 lo)
theorem gP (xs:List V) (lo hi:Option Int):(cutV xs lo hi).length≤xs.length:=by
 unfold cutV
 rw [List.length_take,List.length_drop]
 omega
def rSlT (K:PySem.W.Frag):V→Option Int→Option Int→Hp→VK→Prop:=fun x lo hi H Q=>∃ a xs,x=.ref a∧SqT K H a xs ∧
 ¬ (HT.sIx xs.length 0 lo=0∧HT.sIx xs.length xs.length hi=xs.length)∧∀ p,H p=none→Q (.ref p) (upd H p (.tup (cutV xs lo hi)))
theorem zD:SlR X (rSlT X.K):=by
 intro pins s σ H x v vl vu lo hi sl Q I rx hs pl pu h
 obtain ⟨a,xs,rfl,hx,hw,q⟩:=h
 cases rx
 obtain ⟨its,r,ht,hz⟩:=I.tuple hx
 have hlen:its.toArray.size=xs.length:=by rw [List.size_toArray];exact r.length.symm
 refine⟨"tuple",_,PyProof.Rows.slot_tuple_getitem.lookup,ht.typeIs,?_⟩
 refine HT.getItem_tuple_cut ht hs pl pu (by rw [hlen];exact hw) ?_ (by rw [hlen];exact hz)
 rw [hlen]
 refine⟨.ref s.heap.objs.size,_,I.laid (t':=s.toks) (o:=.tup (cutV xs lo hi)) (fun b ob q=>Heap.get?_push_of_some _ q) (Nat.le_refl _) ?_,rfl,q _ (I.hok.fresh (Nat.le_refl _))⟩
 exact⟨Nat.le_trans (gP xs lo hi) hz,_,(r.drop (HT.sIx xs.length 0 lo)).take (HT.sIx xs.length xs.length hi - HT.sIx xs.length 0 lo),IsTup.new _ _⟩
def Bt (K:PySem.W.Frag):R2:=fun x y H Q=>∃ a b xs ys,x=.ref a∧y=.ref b∧SqT K H a xs∧SqT K H b ys∧xs≠[]∧xs.length + ys.length≤sizeLine ∧
 (ys=[]→Q (.ref a) H)∧(ys≠[]→∀ p,H p=none→Q (.ref p) (upd H p (.tup (xs++ys))))
theorem Vals.nil_iff {xs:List V} {us:List Value} (r:Vals xs us):us=[]↔xs=[]:=by
 cases r with
 | nil=>simp
 | cons _ _=>simp
theorem wu:OpR X (binaryOp .Add) (Bt X.K):=by
 intro pins s σ H x y v u Q I rx ry h
 obtain ⟨a,b,xs,ys,rfl,rfl,ha,hb,hx,hz,q1,q2⟩:=h
 cases rx
 cases ry
 obtain ⟨its,r1,p1,_⟩:=I.tuple ha
 obtain ⟨its2,r2,p2,_⟩:=I.tuple hb
 refine HT.cat_tup p1 p2 (fun z=>hx (r1.nil_iff.mp z)) (fun z=>⟨.ref a,H,I,rfl,q1 (r2.nil_iff.mp z)⟩) (fun z=>?_) (by rw [← r1.length,← r2.length];exact hz)
 refine⟨.ref s.heap.objs.size,_,I.laid (t':=s.toks) (o:=.tup (xs++ys)) (fun b ob q=>Heap.get?_push_of_some _ q) (Nat.le_refl _) ?_,rfl,q2 (fun w=>z (r2.nil_iff.mpr w)) _ (I.hok.fresh (Nat.le_refl _))⟩
 exact⟨by rw [List.length_append];exact hz,_,r1.append r2,IsTup.new _ _⟩
end
end L2
namespace L2
open PySem PySem.Spec PyProof.Rows
def ixN (n:Nat) (i:Int):Option Nat:=if 0≤i then (if i < n then some i.toNat else none) else if -(n:Int)≤i then some (i + n).toNat else none
def atI {α:Type} (xs:List α) (i:Int):Option α:=(ixN xs.length i).bind fun j=>xs[j]?
theorem qH {n:Nat} {i:Int} {j:Nat} (h:ixN n i=some j):seqIndex? i n=some j∧j < n∧-(n:Int)≤i∧i < n:=by
 unfold ixN at h
 by_cases h0:0≤i
 ·rw [if_pos h0] at h
  by_cases h1:i < n
  ·rw [if_pos h1] at h
   have e:i.toNat=j:=Option.some.inj h
   exact⟨by rw [seqIndex_of h0 h1,e],by omega,by omega,h1⟩
  ·rw [if_neg h1] at h;cases h
 ·rw [if_neg h0] at h
  by_cases h1:-(n:Int)≤i
  ·rw [if_pos h1] at h
   have e:(i + n).toNat=j:=Option.some.inj h
   exact⟨by rw [seqIndex_neg (by omega) h1,e],by omega,h1,by omega⟩
  ·rw [if_neg h1] at h;cases h
theorem k7 {α:Type} {xs:List α} {i:Int} {v:α} (h:atI xs i=some v):∃ j,seqIndex? i xs.length=some j∧xs[j]?=some v∧j < xs.length∧-(xs.length:Int)≤i∧i < xs.length:=by
 unfold atI at h
 cases e:ixN xs.length i with
 | none=>rw [e] at h;cases h
 | some j =>
  rw [e] at h
  obtain ⟨h1,h2,h3,h4⟩:=qH e
  exact⟨j,h1,h,h2,h3,h4⟩
theorem tD {α:Type} (xs:List α) (v:α):atI (xs++[v]) (-1)=some v:=by
 have hl:(xs++[v]).length=xs.length + 1:=by simp
 have e:ixN (xs++[v]).length (-1)=some xs.length:=by
  unfold ixN
  rw [hl,if_neg (by decide),if_pos (by omega)]
  congr 1
  omega
 unfold atI
 rw [e]
 show (xs++[v])[xs.length]?=some v
 simp
def l7 (b:Expr):Prop:=∀ o i,subscripted b false o i=operate [o,i] (getItem o i)
def IxR (X:Cx) (r:R2):Prop :=
 ∀ (value slice:Expr) (pins:List (Addr×Obj)) (s:Shared) (σ:St) (H:Hp) (x y:V) (v u:Value) (Q:VK),Inv X pins σ H s→RelV x v→RelV y u→r x y H Q →
  subscripted slice false v u=operate [v,u] (getItem v u)→wpAny (model X.prog X.w) X.A (subscriptTail value slice v u) (EP X pins σ Q) X.xe s
def MtR (X:Cx) (id:String) (r:V→List V→Hp→VK→Prop):Prop :=
 ∀ (pins:List (Addr×Obj)) (s:Shared) (σ:St) (H:Hp) (x:V) (xs:List V) (v:Value) (us:List Value) (Q:VK),Inv X pins σ H s→RelV x v→Vals xs us→r x xs H Q →
  wpAny (model X.prog X.w) X.A (call (.builtin id) (v :: us)) (EP X pins σ Q) X.xe s
section
variable {X:Cx} {a b:Expr} {ta tb:TE} {pos:Pos}
theorem IxR.or {r r':R2} (h:IxR X r) (h':IxR X r'):IxR X (fun x y H Q=>r x y H Q∨r' x y H Q):=by
 intro value slice pins s σ H x y v u Q I rx ry q hs
 rcases q with q | q
 ·exact h value slice pins s σ H x y v u Q I rx ry q hs
 ·exact h' value slice pins s σ H x y v u Q I rx ry q hs
theorem Ar {r:R2} (hr:IxR X r) (ha:PE X a ta) (hb:PE X b tb) (hs:l7 b):PE X (.Subscript a b pos) (tOp r ta tb):=by
 intro pins s σ H Q I h
 exact Subscript_ (binT ha hb I h fun v u s2 x y H2 I2 rx ry q=>hr a b pins s2 σ H2 x y v u Q I2 rx ry q (hs _ _))
def rIxL (K:PySem.W.Frag):R2:=fun x y H Q=>∃ p xs i v,x=.ref p∧y=.int i∧SqL K H p xs∧atI xs i=some v∧Q v H
def rIxT (K:PySem.W.Frag):R2:=fun x y H Q=>∃ p xs i v,x=.ref p∧y=.int i∧SqT K H p xs∧atI xs i=some v∧Q v H
def rIxS:R2:=fun x y H Q=>∃ z i c,x=.str z∧y=.int i∧z.length≤sizeLine∧atI z.cps.toList i=some c∧Q (.str ⟨#[c]⟩) H
theorem qM:IxR X (rIxL X.K):=by
 intro value slice pins s σ H x y v u Q I rx ry h hs
 obtain ⟨p,xs,i,z,rfl,rfl,hq,he,q⟩:=h
 cases rx
 obtain ⟨t,rfl⟩:=ry
 obtain ⟨its,r,pl,hz⟩:=I.list hq
 obtain ⟨j,h1,h2,h3,h4,h5⟩:=k7 he
 obtain ⟨w,ew,rw'⟩:=r.get h2
 have hl:=r.length
 have hn:=kz
 have fin:EP X pins σ Q w s:=⟨z,H,I,rw',q⟩
 by_cases h0:0≤i
 ·have hj:i.toNat=j:=by
   rw [seqIndex_of h0 h5] at h1
   exact Option.some.inj h1
  exact item_listR pl.isList h0 (by omega) (by rw [hj];simpa using ew) fin hs
 ·have hj:(i + (its.toArray.size:Int)).toNat=j:=by
   rw [seqIndex_neg (by omega) h4] at h1
   rw [List.size_toArray,← hl]
   exact Option.some.inj h1
  exact subscriptTail_builtinR (x:=w) pl.isList.typeIs slot_list_getitem.lookup
   (wpAny_getItem_list_neg (Q:=fun r s'=>r=w∧EP X pins σ Q r s') pl.isList (by omega) (by rw [List.size_toArray]<;>omega) (by omega) (by rw [hj];simpa using ew) ⟨rfl,fin⟩) hs
theorem zK:IxR X (rIxT X.K):=by
 intro value slice pins s σ H x y v u Q I rx ry h hs
 obtain ⟨p,xs,i,z,rfl,rfl,hq,he,q⟩:=h
 cases rx
 obtain ⟨t,rfl⟩:=ry
 obtain ⟨its,r,pl,hz⟩:=I.tuple hq
 obtain ⟨j,h1,h2,h3,h4,h5⟩:=k7 he
 obtain ⟨w,ew,rw'⟩:=r.get h2
 have hl:=r.length
 have hn:=kz
 have fin:EP X pins σ Q w s:=⟨z,H,I,rw',q⟩
 exact subscriptTail_builtinR (x:=w) pl.typeIs slot_tuple_getitem.lookup
  (getItem_tuple (j:=j) (Q:=fun r s'=>r=w∧EP X pins σ Q r s') pl (by omega) (by omega) (by rw [List.size_toArray,← hl];exact h1) (by simpa using ew) ⟨rfl,fin⟩) hs
theorem zw:IxR X rIxS:=by
 intro value slice pins s σ H x y v u Q I rx ry h hs
 obtain ⟨z,i,c,rfl,rfl,hz,he,q⟩:=h
 obtain ⟨t,rfl⟩:=rx
 obtain ⟨t',rfl⟩:=ry
 obtain ⟨j,h1,h2,h3,h4,h5⟩:=k7 he
 have hl:z.cps.toList.length=z.length:=by simp [Str.length]
 rw [hl] at h1 h4 h5
 have hn:=kz
 exact tail_any (typeIs_str s z t) slot_str_getitem.lookup (getItem_str (c:=c) (by
  have e1:decide (i < -(2 ^ 63:Int))=false:=decide_eq_false (by omega)
  have e2:decide (i ≥ 2 ^ 63)=false:=decide_eq_false (by omega)
  rw [e1,e2,Bool.or_false]) (by rw [h1];simpa using h2) ⟨.str ⟨#[c]⟩,H,I.tok _,⟨_,rfl⟩,q⟩) hs
def rIx (K:PySem.W.Frag):R2:=fun x y H Q=>rIxL K x y H Q∨rIxT K x y H Q∨rIxS x y H Q
theorem ya:IxR X (rIx X.K):=qM.or (zK.or zw)
theorem oI (its:List Value) (n j:Nat) (u:Value):Obj.mapSeq (·.setIfInBounds j u) { cls:=.type "list",data:=.seq its.toArray n }={ cls:=.type "list",data:=.seq (its.set j u).toArray n }:=by
 simp [Obj.mapSeq]
theorem Inv.lst {pins:List (Addr×Obj)} {σ:St} {H:Hp} {s:Shared} {p:Addr} {xs:List V} (I:Inv X pins σ H s) (h:H p=some (.lst xs)) :
  ∃ (its:List Value) (n:Nat),Vals xs its∧s.heap.get? p=some { cls:=.type "list",data:=.seq its.toArray n }∧xs.length≤sizeLine:=by
 obtain ⟨z,its,n,r,e⟩:=I.hok p _ h
 exact⟨its,n,r,e,z⟩
theorem Inv.lstUpd {pins:List (Addr×Obj)} {σ:St} {H:Hp} {s:Shared} {p:Addr} {xs ys:List V} {its its':List Value} {n n':Nat} {f:Obj→Obj} (I:Inv X pins σ H s) (h:H p=some (.lst xs))
  (ho:s.heap.get? p=some { cls:=.type "list",data:=.seq its.toArray n }) (hf:f { cls:=.type "list",data:=.seq its.toArray n }={ cls:=.type "list",data:=.seq its'.toArray n' }) (r:Vals ys its') (hz:ys.length≤sizeLine) (t:Nat) :
  Inv X pins σ (upd H p (.lst ys)) { s with heap:=s.heap.update p f,toks:=t }:=by
 have e:(s.heap.update p f).get? p=some { cls:=.type "list",data:=.seq its'.toArray n' }:=by
  rw [Heap.get?_update_self f ho (by rw [hf]<;>rfl),hf]
 refine I.write (x:=p) (e:=p) (by rw [h];trivial) (.inl rfl) (fun b u hb q=>(Heap.get?_update_other _ _ (Ne.symm hb)).trans q) ⟨_,e⟩ ?_
 exact⟨hz,its',n',r,e⟩
def By:V→V→V→Hp→(Hp→Prop)→Prop:=fun o i v H Q=>∃ p xs k j,o=.ref p∧i=.int k∧H p=some (.lst xs)∧ixN xs.length k=some j∧Q (upd H p (.lst (xs.set j v)))
theorem uf:PSet X By:=by
 intro pins s σ H o i v ov iv u Q I ro ri rv h
 obtain ⟨p,xs,k,j,rfl,rfl,hp,hj,q⟩:=h
 cases ro
 obtain ⟨t,rfl⟩:=ri
 obtain ⟨its,n,r,ho,hz⟩:=I.lst hp
 obtain ⟨h1,h2,h3,h4⟩:=qH hj
 have hl:=r.length
 have hn:=kz
 have I':Inv X pins σ (upd H p (.lst (xs.set j v))) { s with heap:=s.heap.update p (Obj.mapSeq (·.setIfInBounds j u)) } :=
  I.lstUpd hp ho (oI its n j u) (r.set rv j) (by rw [List.length_set];exact hz) s.toks
 by_cases h0:0≤k
 ·have hk:k.toNat=j:=by
   rw [seqIndex_of h0 h4] at h1
   exact Option.some.inj h1
  exact PySem.W.ki_setAt ho h0 (by omega) (by rw [List.size_toArray,← hl];exact h4) (by rw [hk];exact⟨_,I',q⟩)
 ·have hk:(k + (its.toArray.size:Int)).toNat=j:=by
   rw [seqIndex_neg (by omega) h3] at h1
   rw [List.size_toArray,← hl]
   exact Option.some.inj h1
  exact PySem.W.ki_setBack ho (by omega) (by rw [List.size_toArray,← hl];exact h3) (by omega) (by rw [hk];exact⟨_,I',q⟩)
theorem j7 (lo hi:Option Int) (n:Nat):(sliceBounds lo hi none n).1=((HT.sIx n 0 lo:Nat):Int)∧(sliceBounds lo hi none n).2.1=((HT.sIx n n hi:Nat):Int)∧(sliceBounds lo hi none n).2.2=1:=by
 refine⟨?_,?_,rfl⟩
 ·cases lo with
  | none=>simp [sliceBounds,HT.sIx]
  | some i =>
   simp only [sliceBounds,HT.sIx,Option.getD_none,show (1:Int) > 0 by decide,if_true]
   by_cases h:i < 0
   ·simp only [h,if_true]<;>omega
   ·simp only [h,if_false]<;>omega
 ·cases hi with
  | none=>simp [sliceBounds,HT.sIx]
  | some i =>
   simp only [sliceBounds,HT.sIx,Option.getD_none,show (1:Int) > 0 by decide,if_true]
   by_cases h:i < 0
   ·simp only [h,if_true]<;>omega
   ·simp only [h,if_false]<;>omega
theorem jL (its:List Value) (lo hi:Option Int):slicePick its.toArray lo hi none=((its.drop (HT.sIx its.length 0 lo)).take (HT.sIx its.length its.length hi - HT.sIx its.length 0 lo)).toArray:=by
 obtain ⟨h1,h2,h3⟩:=j7 lo hi its.toArray.size
 unfold slicePick
 rw [h1,h2,h3]
 simp only [sliceRange_one,pick_run,List.size_toArray]<;>rfl
def rSlL (K:PySem.W.Frag):V→Option Int→Option Int→Hp→VK→Prop:=fun x lo hi H Q=>∃ a xs,x=.ref a∧SqL K H a xs∧∀ p,H p=none→Q (.ref p) (upd H p (.lst (cutV xs lo hi)))
theorem qC:SlR X (rSlL X.K):=by
 intro pins s σ H x v vl vu lo hi sl Q I rx hs pl pu h
 obtain ⟨a,xs,rfl,hx,q⟩:=h
 cases rx
 obtain ⟨its,r,ht,hz⟩:=I.list hx
 have hlen:=r.length
 refine⟨"list",_,slot_list_getitem.lookup,ht.isList.typeIs,?_⟩
 refine wpAny_getItem_list_slice ht.isList hs pl pu .none (by simp) ?_ (by rw [List.size_toArray]<;>omega)
 rw [jL,← hlen]
 refine⟨.ref s.heap.objs.size,_,I.laid (t':=s.toks) (o:=.lst (cutV xs lo hi)) (fun b ob q=>Heap.get?_push_of_some _ q) (Nat.le_refl _) ?_,rfl,q _ (I.hok.fresh (Nat.le_refl _))⟩
 exact⟨Nat.le_trans (gP xs lo hi) hz,_,0,(r.drop (HT.sIx xs.length 0 lo)).take (HT.sIx xs.length xs.length hi - HT.sIx xs.length 0 lo),Heap.get?_push_size _ rfl⟩
def Ax:V→Bool
 | .non=>true
 | .bl _=>true
 | .int _=>true
 | .str _=>true
 | _=>false
def eqV:V→V→Bool
 | .non,.non=>true
 | .bl a,.bl b=>a == b
 | .bl a,.int b=>(if a then 1 else 0) == b
 | .int a,.bl b=>a == (if b then 1 else 0)
 | .int a,.int b=>a == b
 | .str a,.str b=>a == b
 | _,_=>false
theorem nQ {A:Around} {s:Shared} {y x:V} {u v:Value} (ry:RelV y u) (rx:RelV x v) (fy:Ax y=true) (fx:Ax x=true):SeqAt.EqAt A s u v (eqV y x):=by
 cases y with
 | non =>
  cases ry
  cases x with
  | non=>cases rx;exact SeqAt.EqAt.same _
  | bl b=>cases rx;exact SeqAt.EqAt.none_bool b
  | int b=>obtain ⟨t,rfl⟩:=rx;exact SeqAt.EqAt.none_int b t
  | str b=>obtain ⟨t,rfl⟩:=rx;exact SeqAt.EqAt.none_str b t
  | _=>exact absurd (show false=true from fx) Bool.false_ne_true
 | bl a =>
  cases ry
  cases x with
  | non=>cases rx;exact SeqAt.EqAt.bool_none a
  | bl b=>cases rx;exact SeqAt.EqAt.bool_bool a b
  | int b=>obtain ⟨t,rfl⟩:=rx;exact SeqAt.EqAt.bool_int a b t
  | str b=>obtain ⟨t,rfl⟩:=rx;exact SeqAt.EqAt.bool_str a b t
  | _=>exact absurd (show false=true from fx) Bool.false_ne_true
 | int a =>
  obtain ⟨t',rfl⟩:=ry
  cases x with
  | non=>cases rx;exact SeqAt.EqAt.int_none a t'
  | bl b=>cases rx;exact SeqAt.EqAt.int_bool a t' b
  | int b=>obtain ⟨t,rfl⟩:=rx;exact SeqAt.EqAt.int_int a t' b t
  | str b=>obtain ⟨t,rfl⟩:=rx;exact SeqAt.EqAt.int_str a t' b t
  | _=>exact absurd (show false=true from fx) Bool.false_ne_true
 | str a =>
  obtain ⟨t',rfl⟩:=ry
  cases x with
  | non=>cases rx;exact SeqAt.EqAt.str_none a t'
  | bl b=>cases rx;exact SeqAt.EqAt.str_bool a t' b
  | int b=>obtain ⟨t,rfl⟩:=rx;exact SeqAt.EqAt.str_int a t' b t
  | str b=>obtain ⟨t,rfl⟩:=rx;exact SeqAt.EqAt.str_str a t' b t
  | _=>exact absurd (show false=true from fx) Bool.false_ne_true
 | _=>exact absurd (show false=true from fy) Bool.false_ne_true
theorem f7:cc X (.builtin "len") (fun xs H Q=>∃ p ys,xs=[.ref p]∧(SqL X.K H p ys∨SqT X.K H p ys)∧Q (.int ys.length) H):=by
 intro pins s σ H xs us Q I r h
 obtain ⟨p,ys,rfl,hq,q⟩:=h
 obtain ⟨u,rfl,rx⟩:=ge r
 cases rx
 have hn:=kz
 rcases hq with hq | hq
 ·obtain ⟨its,r',pl,hz⟩:=I.list hq
  have hlen:=r'.length
  exact Calls.call_len_list pl.isList (by simp only [List.size_toArray]<;>omega) ⟨.int ys.length,H,I.tok _,⟨s.toks + 1,by rw [List.size_toArray,hlen]⟩,q⟩
 ·obtain ⟨its,r',pl,hz⟩:=I.tuple hq
  have hlen:=r'.length
  exact len_tuple pl (by simp only [List.size_toArray]<;>omega) ⟨.int ys.length,H,I.tok _,⟨s.toks + 1,by rw [List.size_toArray,hlen]⟩,q⟩
theorem kS:cc X (.type "list") (fun xs H Q=>∃ p ys,xs=[.ref p]∧(SqL X.K H p ys∨SqT X.K H p ys)∧∀ l,H l=none→Q (.ref l) (upd H l (.lst ys))):=by
 intro pins s σ H xs us Q I r h
 obtain ⟨p,ys,rfl,hq,q⟩:=h
 obtain ⟨u,rfl,rx⟩:=ge r
 cases rx
 have fin:∀ (its:List Value),Vals ys its→ys.length≤sizeLine→∀ (h':Heap) (c':Nat),(∀ b o',s.heap.get? b=some o'→h'.get? b=some o') →
   h'.get? s.heap.objs.size=some { cls:=.type "list",dict:=none,data:=.seq its.toArray c',slots:=#[] }→EP X pins σ Q (.ref s.heap.objs.size) { s with heap:=h' }:=fun its r' hz h' c' kp e =>
  ⟨.ref s.heap.objs.size,_,I.laid (t':=s.toks) kp (Nat.le_refl _) (show bH X.prog X.w _ h' _ (.lst ys) from ⟨hz,its,c',r',e⟩),rfl,q _ (I.hok.fresh (Nat.le_refl _))⟩
 rcases hq with hq | hq
 ·obtain ⟨its,r',pl,hz⟩:=I.list hq
  have hlen:=r'.length
  obtain ⟨o,ho,hc,n,hd⟩:=pl.isList
  exact call_list_seq p (.inl rfl) ho hc hd (fun h' c' kp e=>fin its r' hz h' c' kp e) (by simp only [List.size_toArray]<;>omega)
 ·obtain ⟨its,r',pl,hz⟩:=I.tuple hq
  have hlen:=r'.length
  obtain ⟨o,ho,hc,n,hd⟩:=pl
  exact call_list_seq p (.inr rfl) ho hc hd (fun h' c' kp e=>fin its r' hz h' c' kp e) (by simp only [List.size_toArray]<;>omega)
theorem fD:cc X (.type "tuple") (fun xs H Q=>∃ p ys,xs=[.ref p]∧((SqL X.K H p ys∧∀ l,H l=none→Q (.ref l) (upd H l (.tup ys)))∨(SqT X.K H p ys∧Q (.ref p) H))):=by
 intro pins s σ H xs us Q I r h
 obtain ⟨p,ys,rfl,h⟩:=h
 obtain ⟨u,rfl,rx⟩:=ge r
 cases rx
 rcases h with ⟨hq,q⟩ | ⟨hq,q⟩
 ·obtain ⟨its,r',pl,hz⟩:=I.list hq
  have hlen:=r'.length
  refine call_tuple_list pl.isList (fun h' kp=>?_) (by simp only [List.size_toArray]<;>omega)
  have I1:Inv X pins σ H { s with heap:=h' }:=I.kept (t':=s.toks) kp
  have I2:Inv X pins σ (upd H h'.objs.size (.tup ys)) { s with heap:=h'.push { cls:=.type "tuple",data:=.seq its.toArray } } :=
   I1.laid (t':=s.toks) (fun b o e=>Heap.get?_push_of_some _ e) (Nat.le_refl _) (show bH X.prog X.w _ _ _ (.tup ys) from ⟨hz,its,r',IsTup.new _ _⟩)
  exact⟨.ref h'.objs.size,_,I2,rfl,q _ (I1.hok.fresh (Nat.le_refl _))⟩
 ·obtain ⟨its,r',pl,hz⟩:=I.tuple hq
  exact call_tuple_same pl ⟨.ref p,H,I,rfl,q⟩
def tyV (K:PySem.W.Frag) (T:String) (x:V) (H:Hp):Prop:=match x with
 | .str _=>T="str"
 | .int _=>T="int"
 | .ref p=>(T="list"∧∃ xs,SqL K H p xs)∨(T="tuple"∧∃ o,K.lookup p=some o∧o.cls=.type "tuple"∧o.dict=none) ∨
   (T="dict"∧((∃ kvs,H p=some (.dK kvs))∨∃ kvs,H p=some (.dT kvs)))∨(T="set"∧∃ S n,H p=some (.set S n))
 | _=>False
theorem uP {pins:List (Addr×Obj)} {σ:St} {H:Hp} {s:Shared} {T:String} {x:V} {v:Value} (I:Inv X pins σ H s) (r:RelV x v) (ty:tyV X.K T x H) :
  s.TypeIs v T∧∀ a,v=.ref a→∃ ob,s.heap.get? a=some ob∧ob.dict=none:=by
 cases x with
 | str z =>
  obtain ⟨t,rfl⟩:=r
  cases (show T="str" from ty)
  exact⟨typeIs_str s z t,fun _ e=>nomatch e⟩
 | int i =>
  obtain ⟨t,rfl⟩:=r
  cases (show T="int" from ty)
  exact⟨typeIs_int s i t,fun _ e=>nomatch e⟩
 | ref p =>
  cases r
  rcases ty with ⟨rfl,xs,hq⟩ | ⟨rfl,o,hk,hc,hd⟩ | ⟨rfl,hk⟩ | ⟨rfl,S,n,hk⟩
  ·obtain ⟨its,_,pl,_⟩:=I.list hq
   refine⟨pl.isList.typeIs,fun a e=>?_⟩
   cases e
   obtain ⟨o,n,e,c,hd,_⟩:=pl
   exact⟨o,e,hd⟩
  ·refine⟨⟨o,I.kIn p o hk,hc⟩,fun a e=>?_⟩
   cases e
   exact⟨o,I.kIn _ o hk,hd⟩
  ·have z:∃ o,s.heap.get? p=some o∧o.ExactDict:=by
    rcases hk with ⟨kvs,hk⟩ | ⟨kvs,hk⟩
    ·obtain ⟨_,_,_,_,o,_,_,e,ex,_⟩:=I.hok p _ hk
     exact⟨o,e,ex⟩
    ·obtain ⟨_,_,_,_,o,_,_,e,ex,_⟩:=I.hok p _ hk
     exact⟨o,e,ex⟩
   obtain ⟨o,e,ex⟩:=z
   refine⟨⟨o,e,ex.1⟩,fun a e2=>?_⟩
   cases e2
   exact⟨o,e,ex.2.1⟩
  ·obtain ⟨o,_,_,_,e,ex,_⟩:=I.hok p _ hk
   refine⟨⟨o,e,ex.1⟩,fun a e2=>?_⟩
   cases e2
   exact⟨o,e,ex.2.1⟩
 | _=>exact False.elim ty
def tBM0 (K:PySem.W.Frag) (T:String) (r:V→List V→Hp→VK→Prop) (to:TE):TE:=fun σ H Q=>to σ H fun x H1=>tyV K T x H1∧r x [] H1 Q
def tBM (K:PySem.W.Frag) (T:String) (r:V→List V→Hp→VK→Prop) (to:TE) (t:TA):TE:=fun σ H Q=>to σ H fun x H1=>tyV K T x H1∧t σ H1 fun xs H2=>r x xs H2 Q
variable {o e:Expr} {es:List Expr} {to:TE} {t:TA} {name:Str} {apos cpos:Pos} {T id:String} {r:V→List V→Hp→VK→Prop}
theorem yj (pa:PlainAttrs T) (slot:Slot T name id) (hty:typeOf (.builtin id)=pure (.type "method_descriptor")) (hm:MtR X id r) (ho:PE X o to)
  (hbase:attributeBase o name X.env (eval o X.env)=eval o X.env:=by rfl) (hline:(apos.endLine == cpos.line)=true:=by rfl):PE X (.Call (.Attribute o name apos) [] [] cpos) (tBM0 X.K T r to):=by
 intro pins s σ H Q I h
 refine wpAny_Call_method0_late hbase hline (thn (ho pins s σ H _ I h) fun v s1 ⟨x,H1,I1,r1,ty,q1⟩=>?_)
 obtain ⟨h1,h2⟩:=uP I1 r1 ty
 exact⟨T,id,pa,slot,hty,h1,h2,Calls.callWith_builtin rfl (PySem.evalArgs_none (hm pins s1 σ H1 x [] v [] Q I1 r1 .nil q1))⟩
theorem wU (pa:PlainAttrs T) (slot:Slot T name id) (hty:typeOf (.builtin id)=pure (.type "method_descriptor")) (hm:MtR X id r) (ho:PE X o to) (ha:PA X (e :: es) t)
    (hbase:attributeBase o name X.env (eval o X.env)=eval o X.env:=by rfl)
    (hfew:((backTo cpos (starEach (e :: es) X.env)).all (fun x=>!x.1) && (backToKw cpos (keywordEach [] X.env)).all (fun x=>x.1.isSome)
      && decide ((e :: es).length + ([]:List Keyword).length + (if ([]:List Keyword).isEmpty then 0 else 1) < 30))=true:=by rfl)
    (hline:(apos.endLine == cpos.line)=true:=by rfl) (hs:starEach (e :: es) X.env=(false,eval e X.env) :: starEach es X.env:=by rfl) (hplain:(backTo cpos (starEach es X.env)).any (·.1)=false:=by rfl) :
    PE X (.Call (.Attribute o name apos) (e :: es) [] cpos) (tBM X.K T r to t):=by
  intro pins s σ H Q I h
  refine wpAny_Call_method_late hbase hfew hline rfl (thn (ho pins s σ H _ I h) fun v s1 ⟨x,H1,I1,r1,ty,q1⟩=>?_)
  obtain ⟨h1,h2⟩:=uP I1 r1 ty
  refine⟨T,id,pa,slot,hty,h1,h2,?_⟩
  have hA:=ha cpos pins s1 σ H1 _ I1 q1
  rw [hs] at hA ⊢
  refine Calls.callWith_builtin (by show (false || (backTo cpos (starEach es X.env)).any (·.1))=false;rw [hplain]<;>rfl) (Calls.evalArgs_plain ?_)
  exact thn hA fun us s2 ⟨vs,H2,I2,r2,q2⟩=>hm pins s2 σ H2 x vs v us Q I2 r1 r2 q2
end
end L2
namespace L2
open PySem PySem.Spec PyProof.Rows
def MtM (X:Cx) (id:String) (r:V→List V→Hp→VK→Prop):Prop :=
 ∀ (pins:List (Addr×Obj)) (s:Shared) (σ:St) (H:Hp) (x:V) (xs:List V) (v:Value) (us:List Value) (Q:VK),Inv X pins σ H s→RelV x v→Vals xs us→r x xs H Q →
  wpAny (model X.prog X.w) X.A (call (.builtin id) (v :: us)) (EP X pins σ Q) X.xe s
theorem Vals.one:∀ {x:V} {us:List Value},Vals [x] us→∃ u,us=[u]∧RelV x u
 | _,_,.cons r .nil=>⟨_,rfl,r⟩
theorem Vals.eraseIdx:∀ {xs:List V} {us:List Value} (i:Nat),Vals xs us→Vals (xs.eraseIdx i) (us.eraseIdx i)
 | _,_,_,.nil=>.nil
 | _,_,0,.cons _ t=>t
 | _,_,i + 1,.cons r t=>.cons r (Vals.eraseIdx i t)
theorem Vals.reverse {xs:List V} {us:List Value} (h:Vals xs us):Vals xs.reverse us.reverse:=by
 induction h with
 | nil=>exact .nil
 | cons r t ih=>rw [List.reverse_cons,List.reverse_cons];exact Vals.append ih (.cons r .nil)
theorem kc {α:Type}:∀ (l:List α) (i:Nat),(l.eraseIdx i).length≤l.length
 | [],_=>Nat.le_refl _
 | _ :: _,0=>Nat.le_succ _
 | _ :: r,i + 1=>Nat.succ_le_succ (kc r i)
section
variable {X:Cx} {pins:List (Addr×Obj)} {σ:St} {H:Hp} {s:Shared} {l b:Addr} {xs ys zs:List V}
theorem Inv.lset {its its':List Value} {n:Nat} {f:Array Value→Array Value} {t':Nat} (I:Inv X pins σ H s) (hH:H l=some (.lst xs))
  (e:s.heap.get? l=some { cls:=.type "list",data:=.seq its.toArray n }) (hf:f its.toArray=its'.toArray) (hv:Vals ys its') (hz:ys.length≤sizeLine) :
  Inv X pins σ (upd H l (.lst ys)) { s with heap:=s.heap.update l (Obj.mapSeq f),toks:=t' }:=by
 have q:=PySem.IsL.update e f
 rw [hf] at q
 refine I.write (x:=l) (e:=l) (by rw [hH];exact trivial) (.inl rfl) (fun b' u hb hu=>(Heap.get?_update_other s.heap (Obj.mapSeq f) (Ne.symm hb)).trans hu) ⟨_,q⟩ ?_
 exact⟨hz,its',_,hv,q⟩
theorem Inv.lnew {its:List Value} {t':Nat} (I:Inv X pins σ H s) (hv:Vals ys its) (hz:ys.length≤sizeLine) :
  Inv X pins σ (upd H s.heap.objs.size (.lst ys)) { s with heap:=s.heap.push { cls:=.type "list",data:=.seq its.toArray },toks:=t' } :=
 I.laid (fun _ _ q=>Heap.get?_push_of_some _ q) (Nat.le_refl _) ⟨hz,its,0,hv,Heap.get?_push_size _ rfl⟩
theorem Inv.fresh (I:Inv X pins σ H s):H s.heap.objs.size=none:=I.hok.fresh (Nat.le_refl _)
theorem Inv.lstM (I:Inv X pins σ H s) (hH:H l=some (.lst xs)):xs.length≤sizeLine∧∃ (its:List Value) (n:Nat),Vals xs its∧xs.length=its.length∧s.heap.get? l=some { cls:=.type "list",data:=.seq its.toArray n }:=by
 obtain ⟨z,its,n,r,e⟩:=I.hok l _ hH
 exact⟨z,its,n,r,r.length,e⟩
theorem tL {n:Nat} (h:n≤sizeLine):Builtin.List.listTooLong n=false:=by
 unfold Builtin.List.listTooLong
 exact decide_eq_false (by omega)
end
section
variable {X:Cx}
def vU:V→List V→Hp→VK→Prop:=fun x vs H Q=>∃ l xs y,x=.ref l∧vs=[y]∧H l=some (.lst xs)∧xs.length < sizeLine∧Q .non (upd H l (.lst (xs++[y])))
theorem kB:MtM X "list.append" vU:=by
 intro pins s σ H x vs v us Q I rx rv h
 obtain ⟨l,xs,y,rfl,rfl,hH,hz,q⟩:=h
 cases rx
 obtain ⟨u,rfl,ru⟩:=rv.one
 obtain ⟨z,its,n,r,hl,e⟩:=I.lstM hH
 refine call_meets F.slot_list_append ⟨_,e,rfl⟩ F.entry_list_append (F.args_list_append_2 _ _) (PySem.list_append l its.toArray n u (by rw [List.size_toArray];omega)) ⟨e,?_⟩
 refine⟨.non,_,I.lset (its':=its++[u]) hH e (by simp) (r.append (.cons ru .nil)) ?_,rfl,q⟩
 rw [List.length_append,List.length_singleton]
 omega
def w6:V→List V→Hp→VK→Prop:=fun x vs H Q=>∃ l b xs zs,x=.ref l∧vs=[.ref b]∧H l=some (.lst xs)∧H b=some (.lst zs)∧xs.length + zs.length≤sizeLine∧Q .non (upd H l (.lst (xs++zs)))
theorem mt_extend:MtM X "list.extend" w6:=by
 intro pins s σ H x vs v us Q I rx rv h
 obtain ⟨l,b,xs,zs,rfl,rfl,hH,hB,hz,q⟩:=h
 cases rx
 obtain ⟨u,rfl,ru⟩:=rv.one
 cases ru
 obtain ⟨z,its,n,r,hl,e⟩:=I.lstM hH
 obtain ⟨z2,its2,n2,r2,hl2,e2⟩:=I.lstM hB
 have hsz:its.toArray.size + its2.toArray.size≤sizeLine:=by rw [List.size_toArray,List.size_toArray];omega
 have hlong:¬ (!its.toArray.isEmpty && Builtin.List.listTooLong (its.toArray.size + its2.toArray.size))=true:=by
  rw [tL hsz,Bool.and_false]
  exact Bool.false_ne_true
 refine call_meets F.slot_list_extend ⟨_,e,rfl⟩ F.entry_list_extend (F.args_list_extend_2 _ _)
  (AutoSeq1.list_extend_list_list_0 l its.toArray n b its2.toArray n2 hlong (by rw [List.size_toArray];omega) (by omega)) ⟨e,e2,?_⟩
 refine⟨.non,_,I.lset (its':=its++its2) hH e (by simp) (r.append r2) ?_,rfl,q⟩
 rw [List.length_append]
 omega
def yH:V→List V→Hp→VK→Prop:=fun x vs H Q=>∃ l xs i k y,x=.ref l∧vs=[.int i]∧H l=some (.lst xs)∧-(2 ^ 63)≤i∧i < 2 ^ 63∧seqIndex? i xs.length=some k∧xs[k]?=some y∧Q y (upd H l (.lst (xs.eraseIdx k)))
theorem sY:MtM X "list.pop" yH:=by
 intro pins s σ H x vs v us Q I rx rv h
 obtain ⟨l,xs,i,k,y,rfl,rfl,hH,h1,h2,hk,hy,q⟩:=h
 cases rx
 obtain ⟨u,rfl,ru⟩:=rv.one
 obtain ⟨t,rfl⟩:=ru
 obtain ⟨z,its,n,r,hl,e⟩:=I.lstM hH
 obtain ⟨w,hw,rw'⟩:=r.get hy
 refine call_meets F.slot_list_pop ⟨_,e,rfl⟩ F.entry_list_pop (F.args_list_pop_2 _ _)
  (MeetsSeq.list_pop_at l its.toArray n i t k w (fitsIndex_both h1 h2) (by rw [List.size_toArray,← hl];exact hk) (by rw [← Array.getElem?_toList];exact hw) (by rw [List.size_toArray];omega)) ⟨e,?_⟩
 refine⟨y,_,I.lset (its':=its.eraseIdx k) hH e ?_ (r.eraseIdx k) ?_,rw',q⟩
 ·show its.toArray.eraseIdxIfInBounds k=(its.eraseIdx k).toArray
  rw [List.eraseIdxIfInBounds_toArray]
 ·have:=kc xs k
  omega
def rCat:R2:=fun x y H Q=>∃ l b xs zs,x=.ref l∧y=.ref b∧H l=some (.lst xs)∧H b=some (.lst zs)∧xs.length + zs.length≤sizeLine∧∀ p,H p=none→Q (.ref p) (upd H p (.lst (xs++zs)))
theorem Af:OpR X (binaryOp .Add) rCat:=by
 intro pins s σ H x y v u Q I rx ry h
 obtain ⟨l,b,xs,zs,rfl,rfl,hH,hB,hz,q⟩:=h
 cases rx
 cases ry
 obtain ⟨z,its,n,r,hl,e⟩:=I.lstM hH
 obtain ⟨z2,its2,n2,r2,hl2,e2⟩:=I.lstM hB
 refine PySem.P.add_list e e2 ?_ (by rw [List.size_toArray,List.size_toArray];omega)
 have ea:its.toArray++its2.toArray=(its++its2).toArray:=by simp
 rw [ea]
 exact⟨.ref _,_,I.lnew (t':=s.toks) (r.append r2) (by rw [List.length_append];omega),rfl,q _ I.fresh⟩
end
section
variable {prog:Program} {w:World} {A:Around} {E:Value→Shared→Prop} {s:Shared}
set_option maxRecDepth 100000 in
end
section
variable {X:Cx}
end
end L2
namespace L2
open PySem PySem.Spec PyProof.Rows
section
variable {κ:Type} [DecidableEq κ]
def valV (kvs:List (κ×V)) (k:κ):Option V:=(kvs.find? fun kv=>decide (kv.1=k)).map (·.2)
def putK (kvs:List (κ×V)) (k:κ) (v:V):List (κ×V) :=
 if (kvs.any fun kv=>decide (kv.1=k))=true then kvs.map (fun kv=>if kv.1=k then (kv.1,v) else kv) else kvs++[(k,v)]
def zF (kvs:List (κ×V)) (k:κ):List (κ×V):=kvs.filter fun kv=>decide (kv.1≠k)
theorem gn {p:κ×V} {r:List (κ×V)} {k:κ} (e:p.1=k):valV (p :: r) k=some p.2:=by simp [valV,List.find?_cons,e]
theorem gv {p:κ×V} {r:List (κ×V)} {k:κ} (e:¬ p.1=k):valV (p :: r) k=valV r k:=by simp [valV,List.find?_cons,e]
theorem nW (k:κ):∀ kvs:List (κ×V),(kvs.any fun kv=>decide (kv.1=k))=(valV kvs k).isSome
 | []=>rfl
 | p :: r=>by
  rw [List.any_cons]
  by_cases e:p.1=k
  ·simp only [gn e,decide_eq_true e,Bool.true_or,Option.isSome_some]
  ·rw [gv e,decide_eq_false e,Bool.false_or];exact nW k r
theorem gY (kvs:List (κ×V)) (k:κ) (v:V):(putK kvs k v).length≤kvs.length + 1:=by
 unfold putK
 split
 ·rw [List.length_map];omega
 ·rw [List.length_append,List.length_cons,List.length_nil];omega
theorem RelO.isSome_eq {o:Option V} {u:Option Value} (r:RelO o u):o.isSome=u.isSome:=by
 cases o with
 | none=>cases u with
  | none=>rfl
  | some _=>exact (show False from r).elim
 | some _=>cases u with
  | none=>exact (show False from r).elim
  | some _=>rfl
theorem RelO.getD {o:Option V} {u:Option Value} {d:V} {d':Value} (r:RelO o u) (rd:RelV d d'):RelV (o.getD d) (u.getD d'):=by
 cases o with
 | none=>cases u with
  | none=>exact rd
  | some _=>exact (show False from r).elim
 | some _=>cases u with
  | none=>exact (show False from r).elim
  | some _=>exact r
theorem KV.val {kvs:List (κ×V)} {vs:List (κ×Value)} (r:KV kvs vs) (k:κ):RelO (valV kvs k) (valueAt vs k):=by
 unfold KV at r
 induction r with
 | nil=>exact True.intro
 | @cons p q ps qs h t ih =>
  obtain ⟨h1,h2⟩:=h
  by_cases e:p.1=k
  ·have e':q.1=k:=h1.symm.trans e
   have b:valueAt (q :: qs) k=some q.2:=by simp [valueAt,List.find?_cons,e']
   rw [gn e,b];exact h2
  ·have e':¬ q.1=k:=fun z=>e (h1.trans z)
   have b:valueAt (q :: qs) k=valueAt qs k:=by simp [valueAt,List.find?_cons,e']
   rw [gv e,b];exact ih
theorem KV.any {kvs:List (κ×V)} {vs:List (κ×Value)} (r:KV kvs vs) (k:κ):(kvs.any fun kv=>decide (kv.1=k))=vs.any fun kv=>decide (kv.1=k):=by
 unfold KV at r
 induction r with
 | nil=>rfl
 | cons h t ih=>rw [List.any_cons,List.any_cons,ih,h.1]
theorem KV.repl {kvs:List (κ×V)} {vs:List (κ×Value)} (r:KV kvs vs) (k:κ) {y:V} {u:Value} (ry:RelV y u) :
  KV (kvs.map fun kv=>if kv.1=k then (kv.1,y) else kv) (vs.map fun kv=>if kv.1=k then (kv.1,u) else kv):=by
 unfold KV at r ⊢
 induction r with
 | nil=>exact .nil
 | @cons p q ps qs h t ih =>
  rw [List.map_cons,List.map_cons]
  refine .cons ?_ ih
  obtain ⟨h1,h2⟩:=h
  by_cases e:p.1=k
  ·rw [if_pos e,if_pos (h1.symm.trans e)];exact⟨h1,ry⟩
  ·rw [if_neg e,if_neg (fun z=>e (h1.trans z))];exact⟨h1,h2⟩
theorem KV.put {kvs:List (κ×V)} {vs:List (κ×Value)} (r:KV kvs vs) (k:κ) {y:V} {u:Value} (ry:RelV y u):KV (putK kvs k y) (stored vs k u):=by
 unfold putK stored
 rw [r.any k]
 by_cases e:(vs.any fun kv=>decide (kv.1=k))=true
 ·rw [if_pos e,if_pos e];exact r.repl k ry
 ·rw [if_neg e,if_neg e];exact Paired.snoc r ⟨rfl,ry⟩
theorem KV.drop {kvs:List (κ×V)} {vs:List (κ×Value)} (r:KV kvs vs) (k:κ):KV (zF kvs k) (without vs k):=by
 unfold KV at r ⊢
 unfold zF without
 induction r with
 | nil=>exact .nil
 | @cons p q ps qs h t ih =>
  obtain ⟨h1,h2⟩:=h
  rw [List.filter_cons,List.filter_cons]
  by_cases e:p.1=k
  ·have a:¬ decide (p.1≠k)=true:=by simp [e]
   have b:¬ decide (q.1≠k)=true:=by simp [h1.symm.trans e]
   rw [if_neg a,if_neg b];exact ih
  ·have e':¬ q.1=k:=fun z=>e (h1.trans z)
   have a:decide (p.1≠k)=true:=by simp [e]
   have b:decide (q.1≠k)=true:=by simp [e']
   rw [if_pos a,if_pos b];exact .cons ⟨h1,h2⟩ ih
theorem KV.keys {kvs:List (κ×V)} {vs:List (κ×Value)} (r:KV kvs vs):kvs.map (·.1)=vs.map (·.1):=by
 unfold KV at r
 induction r with
 | nil=>rfl
 | cons h t ih=>rw [List.map_cons,List.map_cons,ih,h.1]
theorem KV.length {kvs:List (κ×V)} {vs:List (κ×Value)} (r:KV kvs vs):kvs.length=vs.length:=Paired.length r
end
theorem oH {P:Program} {w:World} {k:Key} {u:Value} (r:RelV (kV k) u):(aZ P w).is k u=true:=by
 cases k with
 | inl i=>obtain ⟨t,e⟩:=(show ∃ t,u=Value.int i t from r);subst e;exact mi P w i t
 | inr x=>obtain ⟨t,e⟩:=(show ∃ t,u=Value.str x t from r);subst e;exact lU P w x t
theorem ki {P:Program} {w:World}:∀ {ks:List Key} {us:List Value},Vals (ks.map kV) us→ItemsAre (aZ P w) ks us
 | [],_,r=>by rw [List.map_nil] at r;cases r;exact .nil
 | k :: ks,_,r=>by
  rw [List.map_cons] at r
  cases r with
  | cons h t=>exact .cons (oH h) (ki t)
abbrev KT (H:Hp):List (List Key×V)→List (List Key×Addr×Value)→Prop:=Paired fun p q=>p.1=q.1∧H q.2.1=some (.tup (p.1.map kV))∧RelV p.2 q.2.2
theorem KT.val {H:Hp} {kvs:List (List Key×V)} {xs:List (List Key×Addr×Value)} (r:KT H kvs xs) (k:List Key):RelO (valV kvs k) ((atKey xs k).map (·.2)):=by
 induction r with
 | nil=>exact True.intro
 | @cons p q ps qs h t ih =>
  obtain ⟨h1,_,h2⟩:=h
  by_cases e:p.1=k
  ·have e':q.1=k:=h1.symm.trans e
   have b:atKey (q :: qs) k=some q.2:=by simp [atKey,List.find?_cons,e']
   rw [gn e,b];exact h2
  ·have e':¬ q.1=k:=fun z=>e (h1.trans z)
   have b:atKey (q :: qs) k=atKey qs k:=by simp [atKey,List.find?_cons,e']
   rw [gv e,b];exact ih
theorem KT.repl {H:Hp} {kvs:List (List Key×V)} {xs:List (List Key×Addr×Value)} (r:KT H kvs xs) (k:List Key) {y:V} {u:Value} (ry:RelV y u) :
  KT H (kvs.map fun kv=>if kv.1=k then (kv.1,y) else kv) (xs.map (putAt k u)):=by
 induction r with
 | nil=>exact .nil
 | @cons p q ps qs h t ih =>
  rw [List.map_cons,List.map_cons]
  refine .cons ?_ ih
  obtain ⟨h1,h2,h3⟩:=h
  unfold putAt
  by_cases e:p.1=k
  ·rw [if_pos e,if_pos (h1.symm.trans e)];exact⟨h1,h2,ry⟩
  ·rw [if_neg e,if_neg (fun z=>e (h1.trans z))];exact⟨h1,h2,h3⟩
theorem KT.put {H:Hp} {kvs:List (List Key×V)} {xs:List (List Key×Addr×Value)} (r:KT H kvs xs) (k:List Key) {b:Addr} {y:V} {u:Value} (hb:H b=some (.tup (k.map kV))) (ry:RelV y u) :
  KT H (putK kvs k y) (storedH xs k b u):=by
 have e:(kvs.any fun kv=>decide (kv.1=k))=(atKey xs k).isSome:=by
  rw [nW,(r.val k).isSome_eq,Option.isSome_map]
 unfold putK storedH
 rw [e]
 by_cases q:(atKey xs k).isSome=true
 ·rw [if_pos q,if_pos q];exact r.repl k ry
 ·rw [if_neg q,if_neg q];exact Paired.snoc r ⟨rfl,hb,ry⟩
theorem KT.keeps {H H':Hp} {kvs:List (List Key×V)} {xs:List (List Key×Addr×Value)} (r:KT H kvs xs) (ht:∀ b ys,H b=some (.tup ys)→H' b=some (.tup ys)):KT H' kvs xs :=
 Paired.mapP r fun _ _ z=>⟨z.1,ht _ _ z.2.1,z.2.2⟩
section
variable {P:Program} {w:World} {H:Hp} {h:Heap} {a:Addr}
theorem y9 {u:HO} (ok:HOk P w H h) (e:Rd H a u):bH P w H h a u:=e.ok ok
theorem fP {kvs:List (Key×V)} (ok:HOk P w H h) (e:Rd H a (.dK kvs)):kvs.length≤sizeLine∧(a == sysModules)=false∧∃ vs,KV kvs vs∧h.DictOf (aZ P w) a vs :=
 show bH P w H h a (.dK kvs) from y9 ok e
theorem oz {kvs:List (Key×V)} (ok:HOk P w H h) (e:H a=some (.dK kvs)):kvs.length≤sizeLine∧(a == sysModules)=false∧∃ vs,KV kvs vs∧h.DictOf (aZ P w) a vs:=fP ok (.inl e)
theorem iK {ks:List Key} (ok:HOk P w H h) (e:H a=some (.tup (ks.map kV))):(tupleKind (aZ P w)).is h ks a:=by
 obtain ⟨_,its,r,o,h1,h2,n,h3⟩:=(show bH P w H h a (.tup (ks.map kV)) from ok a _ e)
 exact⟨o,its.toArray,n,h1,h2,h3,by simpa using ki r⟩
theorem mH {kvs:List (List Key×V)} (ok:HOk P w H h) (e:Rd H a (.dT kvs)):kvs.length≤sizeLine∧(a == sysModules)=false ∧
  ∃ xs,KT H kvs xs∧h.DictOfH (tupleKind (aZ P w)) a xs:=by
 obtain ⟨z,y,xs,r,o,es,ep,h1,h2,h3,h4,h5⟩:=(show bH P w H h a (.dT kvs) from y9 ok e)
 refine⟨z,y,xs,r,o,es,ep,h1,h2,h3,h4,fun x hx=>?_,h5⟩
 have all:∀ {l:List (List Key×V)} {m:List (List Key×Addr×Value)},KT H l m→∀ x∈m,(tupleKind (aZ P w)).is h x.1 x.2.1:=by
  intro l m q
  induction q with
  | nil=>intro x hx;exact nomatch hx
  | @cons p q ps qs hq t ih =>
   intro x hx
   rcases List.mem_cons.mp hx with e | hx
   ·subst e
    exact iK ok (by rw [← hq.1];exact hq.2.1)
   ·exact ih x hx
 exact all r x hx
theorem BE {kvs:List (List Key×V)} (ok:HOk P w H h) (e:H a=some (.dT kvs)):kvs.length≤sizeLine∧(a == sysModules)=false ∧
  ∃ xs,KT H kvs xs∧h.DictOfH (tupleKind (aZ P w)) a xs:=mH ok (.inl e)
end
def DGet (H:Hp) (a:Addr) (y:V) (r:Option V):Prop :=
 (∃ kvs k,Rd H a (.dK kvs)∧y=kV k∧r=valV kvs k)∨∃ kvs k b,Rd H a (.dT kvs)∧y=.ref b∧H b=some (.tup (k.map kV))∧r=valV kvs k
def DPut (H:Hp) (a:Addr) (y v:V) (H':Hp):Prop :=
 (∃ kvs k,H a=some (.dK kvs)∧y=kV k∧kvs.length < sizeLine∧H'=upd H a (.dK (putK kvs k v))) ∨
 ∃ kvs k b,H a=some (.dT kvs)∧y=.ref b∧H b=some (.tup (k.map kV))∧kvs.length < sizeLine∧H'=upd H a (.dT (putK kvs k v))
theorem DGet.k {H:Hp} {a:Addr} {kvs:List (Key×V)} {k:Key} (e:H a=some (.dK kvs)):DGet H a (kV k) (valV kvs k):=.inl ⟨kvs,k,.inl e,rfl,rfl⟩
theorem DPut.k {H:Hp} {a:Addr} {kvs:List (Key×V)} {k:Key} {v:V} (e:H a=some (.dK kvs)) (hl:kvs.length < sizeLine):DPut H a (kV k) v (upd H a (.dK (putK kvs k v))):=.inl ⟨kvs,k,e,rfl,hl,rfl⟩
section
variable {X:Cx} {pins:List (Addr×Obj)} {σ:St} {H:Hp} {s:Shared} {a:Addr} {y v:V} {u r:Value} {o:Option V} {A:Around} {E:Value→Shared→Prop}
theorem Inv.big (I:Inv X pins σ H s):sysModules < s.heap.objs.size:=by
 have h:mainGlobals < s.heap.objs.size:=(I.mod.glob.keeps I.bk).lt
 exact Nat.lt_trans (by decide) h
theorem qB {Q:Value→Shared→Prop} (hu:A.units + 1 < cLine) (I:Inv X pins σ H s) (g:DGet H a y (some v)) (ry:RelV y u) (h:∀ w' s',Inv X pins σ H s'→RelV v w'→Q w' s') :
  wpAny (model X.prog X.w) A (getItem (.ref a) u) Q E s:=by
 rcases g with ⟨kvs,k,e,ey,l⟩ | ⟨kvs,k,b,e,ey,eb,l⟩
 ·subst ey
  obtain ⟨z,hd,vs,rel,dd⟩:=fP I.hok e
  obtain ⟨w',hw,rw'⟩:=RelO.some_of (v:=v) (o:=valueAt vs k) (by rw [l];exact rel.val k)
  exact wpAny_getItem_of (oH ry) dd.mapOf hw (h w' _ (I.tok _) rw')
 ·subst ey
  cases (show u=Value.ref b from ry)
  obtain ⟨z,hd,xs,rel,dd⟩:=mH I.hok e
  obtain ⟨w',hw,rw'⟩:=RelO.some_of (v:=v) (o:=(atKey xs k).map (·.2)) (by rw [l];exact rel.val k)
  obtain ⟨p,hp,hp2⟩:=Option.map_eq_some_iff.mp hw
  refine wpAny_getItem_heap (tupleKind_room_in1 hu) (iK I.hok eb) dd hp ?_
  rw [hp2]
  exact h w' _ (I.tok _) rw'
theorem d_in {Q:Value→Shared→Prop} (hu:A.units + 1 < cLine) (I:Inv X pins σ H s) (g:DGet H a y o) (ry:RelV y u) (h:∀ s',Inv X pins σ H s'→Q (.bool o.isSome) s') :
  wpAny (model X.prog X.w) A (compareOp .In u (.ref a)) Q E s:=by
 rcases g with ⟨kvs,k,e,ey,l⟩ | ⟨kvs,k,b,e,ey,eb,l⟩
 ·subst ey
  obtain ⟨z,hd,vs,rel,dd⟩:=fP I.hok e
  refine wpAny_in_of (oH ry) hd dd.mapOf ?_
  rw [← (rel.val k).isSome_eq,← l]
  exact h _ (I.tok _)
 ·subst ey
  cases (show u=Value.ref b from ry)
  obtain ⟨z,hd,xs,rel,dd⟩:=mH I.hok e
  refine wpAny_in_heap (tupleKind_room_in1 hu) (iK I.hok eb) hd dd ?_
  have q:=(rel.val k).isSome_eq
  rw [Option.isSome_map] at q
  rw [← q,← l]
  exact h _ (I.tok _)
theorem xg {Q:Value→Shared→Prop} (hu:A.units + 1 < cLine) (I:Inv X pins σ H s) (g:DGet H a y o) (ry:RelV y u) (h:∀ s',Inv X pins σ H s'→Q (.bool (!o.isSome)) s') :
  wpAny (model X.prog X.w) A (compareOp .NotIn u (.ref a)) Q E s:=by
 rcases g with ⟨kvs,k,e,ey,l⟩ | ⟨kvs,k,b,e,ey,eb,l⟩
 ·subst ey
  obtain ⟨z,hd,vs,rel,dd⟩:=fP I.hok e
  refine wpAny_notIn_of (oH ry) hd dd.mapOf ?_
  rw [← (rel.val k).isSome_eq,← l]
  exact h _ (I.tok _)
 ·subst ey
  cases (show u=Value.ref b from ry)
  obtain ⟨z,hd,xs,rel,dd⟩:=mH I.hok e
  refine wpAny_notIn_heap (tupleKind_room_in1 hu) (iK I.hok eb) hd dd ?_
  have q:=(rel.val k).isSome_eq
  rw [Option.isSome_map] at q
  rw [← q,← l]
  exact h _ (I.tok _)
theorem kX {h':Heap} {t':Nat} {ob:HO} (I:Inv X pins σ H s) (mu:Mut (H a)) (hs:Heap.SameBut a s.heap h') (he:∃ q,h'.get? a=some q) (new:bH X.prog X.w (upd H a ob) h' a ob) :
  Inv X pins σ (upd H a ob) { s with heap:=h',toks:=t' } :=
 I.write (x:=a) (e:=a) mu (.inl rfl) (fun b q hb z=>(hs.2 b hb).trans z) he new
theorem qZ {P:Program} {w:World} {H':Hp} {h':Heap} {kvs:List (Key×V)} {vs:List (Key×Value)} (z:kvs.length≤sizeLine) (hd:(a == sysModules)=false) (rel:KV kvs vs) (dd:h'.DictOf (aZ P w) a vs) :
  bH P w H' h' a (.dK kvs):=⟨z,hd,vs,rel,dd⟩
theorem qW {H':Hp} {Q:Unit→Shared→Prop} (hu:A.units + 1 < cLine) (I:Inv X pins σ H s) (g:DPut H a y v H') (ry:RelV y u) (rv:RelV v r) (h:∀ s',Inv X pins σ H' s'→Q () s') :
  wpAny (model X.prog X.w) A (setItem (.ref a) u r) Q E s:=by
 rcases g with ⟨kvs,k,e,ey,l,eH⟩ | ⟨kvs,k,b,e,ey,eb,l,eH⟩
 ·subst ey eH
  obtain ⟨z,hd,vs,rel,dd⟩:=oz I.hok e
  have hz:vs.length≤sizeLine:=by rw [← rel.length];exact z
  have hl:(putK kvs k v).length≤sizeLine:=by have:=gY kvs k v;omega
  refine wpAny_setItem_pairs (hsz:=hz) (oH ry) dd fun h' dd' hs=>h _ ?_
  have he:∃ q,h'.get? a=some q:=let ⟨q,_,_,hq,_⟩:=dd';⟨q,hq⟩
  exact kX I (by rw [e];exact True.intro) hs he (qZ hl hd (rel.put k rv) dd')
 ·subst ey eH
  cases (show u=Value.ref b from ry)
  obtain ⟨z,hd,xs,rel,dd⟩:=BE I.hok e
  have hz:xs.length≤sizeLine:=by rw [← Paired.length rel];exact z
  have hl:(putK kvs k v).length≤sizeLine:=by have:=gY kvs k v;omega
  refine wpAny_setItem_heap (hsz:=hz) (tupleKind_room_in1 hu) (iK I.hok eb) dd fun h' dd' hs=>h _ ?_
  obtain ⟨q,es,ep,hq,h2,h3,h4,_,h5⟩:=dd'
  refine kX I (by rw [e];exact True.intro) hs ⟨q,hq⟩ ⟨hl,hd,_,(rel.put k eb rv).keeps fun c ys ec=>?_,q,es,ep,hq,h2,h3,h4,h5⟩
  rw [aE (AS ec e (fun z=>nomatch z))]
  exact ec
end
section
variable {X:Cx} {pins:List (Addr×Obj)} {σ:St} {H:Hp} {s:Shared} {a:Addr} {kvs:List (Key×V)} {k:Key} {u:Value} {A:Around} {E:Value→Shared→Prop}
theorem wj {Q:Value→Shared→Prop} (I:Inv X pins σ H s) (e:H a=some (.dK kvs)) (h:∀ s',Inv X pins σ (upd H a (.dK [])) s'→Q .none s'):wpAny (model X.prog X.w) A (call (.builtin "dict.clear") [.ref a]) Q E s:=by
 obtain ⟨z,hd,vs,rel,dd⟩:=oz I.hok e
 refine call_meetsIn PySem.F.slot_dict_clear dd.typeIs PySem.F.entry_dict_clear (PySem.F.args_dict_clear_1 _) (meets_dict_clear (aZ X.prog X.w) a) ⟨vs,dd,by rw [← rel.length];exact z,fun h' dd' hs=>h _ ?_⟩
 have he:∃ q,h'.get? a=some q:=let ⟨q,_,_,hq,_⟩:=dd';⟨q,hq⟩
 exact kX (t':=s.toks) I (by rw [e];exact True.intro) hs he (qZ (Nat.zero_le _) hd .nil dd')
end
def NoSl (i:Expr):Prop:=∀ ov iv,subscripted i false ov iv=operate [ov,iv] (getItem ov iv)
theorem w9 {prog:Program} {w:World} {A:Around} {E:Value→Shared→Prop} {s:Shared} {env:Env} {value slice:Expr} {pos:Pos} {T id:String} {Q:Value→Shared→Prop}
  (hl:typeLookup (.type T) "__getitem__"=pure (some (.builtin id))) (hs:NoSl slice)
  (h:wpAny (model prog w) A (eval value env) (fun o s₁=>wpAny (model prog w) A (eval slice env) (fun i s₂=>s₂.TypeIs o T∧wpAny (model prog w) A (getItem o i) Q E s₂) E s₁) E s) :
  wpAny (model prog w) A (eval (.Subscript value slice pos) env) Q E s:=by
 refine Subscript_ (wpAny_mono h (fun o s₁ h₁=>wpAny_mono h₁ (fun i s₂ h₂=>?_) fun _ _ x=>x) fun _ _ x=>x)
 obtain ⟨hT,h₂⟩:=h₂
 unfold subscriptTail
 refine wpAny_bind ?_
 rw [getitemInPython_of_ne hT.not_modules]
 refine wpAny_bind (wpAny_specialOf hT hl ?_)
 have fin:wpAny (model prog w) A (subscripted slice false o i) (fun r s₃=>wpAny (model prog w) A (letTemporaryGo value o r >>= fun _=>pure r) Q E s₃) E s₂:=by
  rw [hs o i]
  exact wpAny_operating (wpAny_mono h₂ (fun r s₃ h₃=>wpAny_bind (wpAny_letTemporaryGo (wpAny_pure h₃))) fun _ _ x=>x)
 first
  | exact wpAny_pure (wpAny_bind fin)
  | exact wpAny_bind (wpAny_pure (wpAny_bind fin))
  | exact wpAny_bind fin
theorem lI {X:Cx} {pins:List (Addr×Obj)} {σ:St} {H:Hp} {s:Shared} {a:Addr} {y:V} {o:Option V} (I:Inv X pins σ H s) (g:DGet H a y o):s.TypeIs (.ref a) "dict":=by
 rcases g with ⟨kvs,k,e,_,_⟩ | ⟨kvs,k,b,e,_,_,_⟩
 ·obtain ⟨_,_,vs,_,dd⟩:=fP I.hok e
  exact dd.typeIs
 ·obtain ⟨_,_,xs,_,dd⟩:=mH I.hok e
  exact dd.typeIs
def AT (td ty:TE):TE:=fun σ H Q=>td σ H fun x H1=>ty σ H1 fun y H2=>∃ a v,x=.ref a∧DGet H2 a y (some v)∧Q v H2
def Bz (td ty tv:TE):TS:=fun D σ H=>tv σ H fun v H1=>td σ H1 fun x H2=>ty σ H2 fun y H3=>∃ a H4,x=.ref a∧DPut H3 a y v H4∧D.nx σ H4
section
variable {X:Cx} {o i e value:Expr} {pos pos' tpos:Pos} {td ty tv:TE}
theorem xi (hu:X.A.units + 1 < cLine) (ho:PE X o td) (hi:PE X i ty) (hs:NoSl i):PE X (.Subscript o i pos) (AT td ty):=by
 intro pins s σ H Q I h
 refine w9 PySem.F.slot_dict_getitem.lookup hs (thn (ho pins s σ H _ I h) fun u s1 ⟨x,H1,I1,rx,q1⟩=>thn (hi pins s1 σ H1 _ I1 q1) fun iv s2 ⟨y,H2,I2,ry,a,v,ex,g,q2⟩=>?_)
 subst ex
 obtain rfl:u=Value.ref a:=rx
 exact⟨lI I2 g,qB hu I2 g ry fun w' s3 I3 rw'=>⟨v,H2,I3,rw',q2⟩⟩
theorem wo (hu:X.A.units + 1 < cLine) (ho:PE X o td) (hi:PE X i ty) (hv:PE X value tv) (hs:swapsWith value (some (.Subscript o i pos')) pos.line X.env=pure false) :
  PS X (.Assign [.Subscript o i pos'] value pos) (Bz td ty tv):=by
 intro pins s σ H D I h
 refine wpAny_Assign_Subscript (thn (hv pins s σ H _ I h) fun r s1 ⟨v,H1,I1,rv,q1⟩=>thn (ho pins s1 σ H1 _ I1 q1) fun u s2 ⟨x,H2,I2,rx,q2⟩=>thn (hi pins s2 σ H2 _ I2 q2) fun iv s3 ⟨y,H3,I3,ry,a,H4,ex,g,q3⟩=>?_) hs
 subst ex
 obtain rfl:u=Value.ref a:=rx
 exact qW hu I3 g ry rv fun s4 I4=>⟨σ,H4,I4,q3⟩
end
theorem tX {P:Program} {w:World} {H:Hp} (h:Heap) (hb:sysModules < h.objs.size):bH P w H (h.push { cls:=.type "dict",data:=.dict #[] }) h.objs.size (.dK []) :=
 ⟨Nat.zero_le _,beq_eq_false_iff_ne.mpr (Ne.symm (Nat.ne_of_lt hb)),[],.nil,Heap.DictOf.new h⟩
def Ad:TE:=fun _ H Q=>∀ p,H p=none→Q (.ref p) (upd H p (.dK []))
section
variable {X:Cx} {pos:Pos}
theorem nZ:PE X (.Dict [] [] pos) Ad:=fun pins s σ H Q I h =>
 wpAny_Dict_empty ⟨.ref s.heap.objs.size,_,I.laid (a:=s.heap.objs.size) (o:=.dK []) (t':=s.toks) (fun _ _ q=>Heap.get?_push_of_some _ q) (Nat.le_refl _) (tX s.heap I.big),rfl,h _ (I.hok.fresh (Nat.le_refl _))⟩
end
structure M2 (X:Cx) (o:Expr) (m:Str) (apos:Pos) (e f:Expr) (cpos:Pos):Prop where
 base:attributeBase o m X.env (eval o X.env)=eval o X.env
 few:((backTo cpos (starEach [e,f] X.env)).all (fun x=>!x.1) && (backToKw cpos (keywordEach [] X.env)).all (fun x=>x.1.isSome)
  && decide (([e,f]:List Expr).length + ([]:List Keyword).length + (if ([]:List Keyword).isEmpty then 0 else 1) < 30))=true
 line:(apos.endLine == cpos.line)=true
 trees:backTo cpos (starEach [e,f] X.env)=[(false,eval e X.env),(false,eval f X.env)]
def IsD (H:Hp) (a:Addr):Prop:=(∃ kvs,Rd H a (.dK kvs))∨∃ kvs,Rd H a (.dT kvs)
theorem x9 {X:Cx} {pins:List (Addr×Obj)} {σ:St} {H:Hp} {s:Shared} {a:Addr} (I:Inv X pins σ H s) (d:IsD H a) :
  s.TypeIs (.ref a) "dict"∧(∀ b,Value.ref a=.ref b→∃ ob,s.heap.get? b=some ob∧ob.dict=none)∧(a == sysModules)=false:=by
 rcases d with ⟨kvs,e⟩ | ⟨kvs,e⟩
 ·obtain ⟨_,hd,vs,_,dd⟩:=fP I.hok e
  refine⟨dd.typeIs,fun b q=>?_,hd⟩
  cases q
  obtain ⟨ob,_,_,h1,h2,_⟩:=dd
  exact⟨ob,h1,h2.2.1⟩
 ·obtain ⟨_,hd,xs,_,dd⟩:=mH I.hok e
  refine⟨dd.typeIs,fun b q=>?_,hd⟩
  cases q
  obtain ⟨ob,_,_,h1,h2,_⟩:=dd
  exact⟨ob,h1,h2.2.1⟩
section
variable {X:Cx} {pins:List (Addr×Obj)} {σ:St} {H:Hp} {s:Shared} {a:Addr} {y d:V} {u r:Value} {o:Option V} {A:Around} {E:Value→Shared→Prop}
theorem Ao {Q:Value→Shared→Prop} (hu:A.units + 1 < cLine) (I:Inv X pins σ H s) (g:DGet H a y o) (ry:RelV y u) (rd:RelV d r) (h:∀ w' s',Inv X pins σ H s'→RelV (o.getD d) w'→Q w' s') :
  wpAny (model X.prog X.w) A (call (.builtin "dict.get") [.ref a,u,r]) Q E s:=by
 rcases g with ⟨kvs,k,e,ey,l⟩ | ⟨kvs,k,b,e,ey,eb,l⟩
 ·subst ey
  obtain ⟨z,hd,vs,rel,dd⟩:=fP I.hok e
  refine call_meetsIn PySem.F.slot_dict_get dd.typeIs PySem.F.entry_dict_get (PySem.F.args_dict_get_3 _ _ _) (meets_dict_get_default (aZ X.prog X.w) a (oH ry) hd r) ⟨_,dd.mapOf,h _ _ (I.tok _) ?_⟩
  rw [l]
  exact (rel.val k).getD rd
 ·subst ey
  cases (show u=Value.ref b from ry)
  obtain ⟨z,hd,xs,rel,dd⟩:=mH I.hok e
  refine call_meetsIn PySem.F.slot_dict_get dd.typeIs PySem.F.entry_dict_get (PySem.F.args_dict_get_3 _ _ _) (meetsH_dict_get_default (tupleKind (aZ X.prog X.w)) a b hd r) ⟨tupleKind_room_in1 hu,k,xs,iK I.hok eb,dd,h _ _ (I.tok _) ?_⟩
  rw [l]
  exact (rel.val k).getD rd
end
def zT (td ty tx:TE):TE:=fun σ H Q=>td σ H fun x H1=>∃ a,x=.ref a∧IsD H1 a∧ty σ H1 fun y H2=>tx σ H2 fun z H3=>∃ o,DGet H3 a y o∧Q (o.getD z) H3
section
variable {X:Cx} {o e f:Expr} {apos cpos:Pos} {td ty tx:TE}
theorem sS (hu:X.A.units + 1 < cLine) (ho:PE X o td) (he:PE X e ty) (hf:PE X f tx) (m:M2 X o "get" apos e f cpos):PE X (.Call (.Attribute o "get" apos) [e,f] [] cpos) (zT td ty tx):=by
 intro pins s σ H Q I h
 refine wpAny_Call_method m.base m.few m.line PySem.F.plainAttrs_dict PySem.F.slot_dict_get PySem.F.type_dict_get (thn (ho pins s σ H _ I h) fun u s1 ⟨x,H1,I1,rx,a,ex,d,q1⟩=>?_)
 subst ex
 obtain rfl:u=Value.ref a:=rx
 obtain ⟨t1,t2,_⟩:=x9 I1 d
 refine⟨t1,t2,?_⟩
 rw [m.trees]
 refine Calls.callWith_builtin rfl (Calls.evalArgs_plain (Calls.spliced_cons (thn (he pins s1 σ H1 _ I1 q1) fun iv s2 ⟨y,H2,I2,ry,q2⟩ =>
  Calls.spliced_cons (thn (hf pins s2 σ H2 _ I2 q2) fun fv s3 ⟨z,H3,I3,rz,ov,g,q3⟩=>Calls.spliced_nil ?_))))
 exact Ao hu I3 g ry rz fun w' s4 I4 rw'=>⟨_,H3,I4,rw',q3⟩
end
section
variable {X:Cx} {pins:List (Addr×Obj)} {σ:St} {H:Hp} {s:Shared} {a:Addr} {kvs:List (Key×V)} {A:Around} {E:Value→Shared→Prop}
end
section
variable {X:Cx} {pins:List (Addr×Obj)} {σ:St} {H:Hp} {s:Shared} {a:Addr} {y:V} {u:Value} {A:Around} {E:Value→Shared→Prop}
end
end L2
namespace Att
open PySem PySem.W PySem.Calls PyProof.Rows
theorem gG {P:Params} {h:Heap}:∀ (ns:List Int) (vs:List Value),WellAll P h vs (ns.map WData.int)→IntsAre vs ns:=by
 intro ns
 induction ns with
 | nil =>
  intro vs w
  rw [List.map_nil] at w
  cases w
  exact .nil
 | cons n ns ih =>
  intro vs w
  rw [List.map_cons] at w
  cases w with
  | cons a b =>
   cases a
   exact .cons _ _ (ih _ b)
theorem script_of {l:OpenLaw} {n:Nat} (hn:l.most=some n) {P:Params} {h:Heap} {args:List WData} {vals:List Value}
  (hpre:l.row.toRowW.claim.pre args=true) (hwl:WellAll P h vals args) :
  ∃ a vs ns,vals=[Value.ref a]∧args=[WData.list (ns.map WData.int)]∧h.get? a=some { cls:=.type "list",data:=.seq vs.toArray }∧IntsAre vs ns∧ns.length≤n:=by
 have hsh:WShape.hasAll [] args [.list .int]=true:=(pre_splitW hpre).1
 have hc:l.pre.holds [] { args:=args }=true:=(pre_splitW hpre).2
 obtain ⟨d,r,rfl,h1,h2⟩:=hasAllW_cons hsh
 obtain rfl:=hasAllW_nil h2
 obtain ⟨xs,rfl,h3⟩:=hasW_list h1
 obtain ⟨ns,rfl⟩:=items_int h3
 have hlen:ns.length≤n:=by
  unfold OpenLaw.pre at hc
  have h4:(WTm.not (.lt (.lit (.int (n:Int))) (.len (.arg 0)))).holds [] { args:=[.list (ns.map .int)] }=true:=by
   have h4:=(holds_andW hc).1
   rw [hn] at h4
   exact h4
  have h5:=condW_of h4 (w_not (w_lt w_lit (w_len_list (w_arg rfl))))
  rw [List.length_map] at h5
  refine Nat.le_of_not_lt fun q=>?_
  have q':(n:Int) < ((ns.length:Nat):Int):=by omega
  first
   | (rw [decide_eq_true q'] at h5;exact absurd h5 (by decide))
   | (simp at h5;omega)
 cases hwl with
 | cons w1 w2 =>
  cases w2
  cases w1 with
  | list ho hall=>exact⟨_,_,ns,rfl,rfl,ho,gG ns _ hall,hlen⟩
theorem post_true (l:OpenLaw) (args:List WData):l.row.toRowW.claim.post args (.bool true) args=true :=
 postW_of (r:=l.row.toRowW) (X:=(true == true))
  (show WShape.has [] (.bool true) .bool=true by first | rfl | decide | simp [WShape.has,WShape.arms,WShape.armsAll])
  (show (WTm.eq .res (.lit (.bool true))).value [] { args:=args,res:=some (.bool true),after:=args }=some (.bool (true == true)) from w_eq_bool (w_res rfl) w_lit) rfl
section
variable {prog:Program} {w:World} {A:Around} {E:Value→Shared→Prop} {s:Shared} {K:Frag}
end
end Att
namespace L2
open PySem PySem.Spec PyProof.Rows
theorem kH:∀ {vs:List Value} {ns:List Int},IntsAre vs ns→Vals (ns.map V.int) vs
 | _,_,.nil=>.nil
 | _,_,.cons n t h=>.cons ⟨t,rfl⟩ (kH h)
def Only (H:Hp):Prop:=∀ b,H b=none∨∃ o xs,H b=some (.frz o (.lst xs))
theorem sI {P:Program} {w:World} {K:PySem.W.Frag} {mg mb:Str→Option Value} {CX:CXT} {k:Nat} {fa a:Addr} {fd:FuncData} {x:Str} {sp:Sp} {s₁:Shared} {vs:List Value} {ns:List Int}
  (KX:K.In s₁.heap) (hns:s₁.heap.Ns mainGlobals mg) (hb:s₁.heap.Ns builtinsNs mb) (hbb:∀ x:Str,x≠"__name__"→mb x=bootBuiltins x) (hlim:s₁.heap.NoLimit) (hg:s₁.gens=#[])
  (ha:s₁.heap.get? a=some { cls:=.type "list",data:=.seq vs.toArray }) (hi:IntsAre vs ns) (hl:ns.length≤sizeLine) (hr:Room k callerA)
  (F:∀ base:Heap,K.In base→base.Ns mainGlobals mg→FnOk P w K mg base CX k fa fd [x] sp) (hbind:∀ (s:Shared) (u:Value),BindsTo s fd ⟨[u],[]⟩ [(x,u)])
  (hsp:∀ H:Hp,Only H→SqL K H a (ns.map V.int)→sp [.ref a] H (fun v _=>v=.bl true) fun _ _ _=>False)
  (hCX:∀ H e s',CX [] H s₁ (fun _ _ _=>False) e s'→False) :
  codeAny (model P w) callerA (.call (.ref fa) ⟨[.ref a],[]⟩) (fun r s'=>r=.ok (.ret (.bool true))∧OldK s₁.heap s'.heap∧s'.os=s₁.os∧AllBare s'.gens) s₁:=by
 have rv:=kH hi
 have lenV:=hi.length
 have core:∀ H:Hp,Only H→SqL K H a (ns.map V.int)→HOk P w H s₁.heap→(∀ b,H b≠none→b=a)→(H a≠none→K.lookup a=none) →
   codeAny (model P w) callerA (.call (.ref fa) ⟨[.ref a],[]⟩) (fun r s'=>r=.ok (.ret (.bool true))∧OldK s₁.heap s'.heap∧s'.os=s₁.os∧AllBare s'.gens) s₁:=by
  intro H hO hS hok hA hK
  have base_of:∀ {b:Addr} {o:Obj},s₁.heap.get? b=some o→H b=none→(hidT s₁.heap H).get? b=some o:=fun e n=>ua e n
  have noA:∀ {b:Addr} {o:Obj} {es:Array DictEntry} {ep:Nat},s₁.heap.get? b=some o→o.data=.dict es ep→H b=none:=fun {b o es ep} e d=>by
   cases q:H b with
   | none=>rfl
   | some u =>
    have e':b=a:=hA b (by rw [q];simp)
    subst e'
    rw [ha] at e;cases e
    have d':Data.seq vs.toArray _=Data.dict es ep:=d
    cases d'
  have nsK:∀ {b:Addr} {m:Str→Option Value},s₁.heap.Ns b m→(hidT s₁.heap H).Ns b m:=fun {b m} ⟨o,es,ep,e,d,r⟩=>⟨o,es,ep,base_of e (noA e d),d,r⟩
  have hKb:K.In (hidT s₁.heap H):=fun b o e=>base_of (KX b o e) (by
   cases q:H b with
   | none=>rfl
   | some u =>
    have e':b=a:=hA b (by rw [q];simp)
    subst e'
    rw [hK (by rw [q];simp)] at e;cases e)
  have hM:Mod K mg (hidT s₁.heap H):=⟨hKb,nsK hns,⟨mb,nsK hb,hbb⟩,let ⟨mc,h1,h2⟩:=hlim;⟨mc,nsK h1,h2⟩⟩
  have e0:Env0 P w K mg (hidT s₁.heap H) callerA [] s₁ H:=⟨rfl,hM,fun b o e=>xo e,Nat.le_of_eq (qJ _ _),trivial,fun b hb=>absurd (show b∈([]:List Addr) from hb) (by simp),hok,.of_eq hg⟩
  refine codeAny_mono ((F _ hKb (nsK hns)).run callerA [] s₁ H ⟨[.ref a],[]⟩ [.ref a] [.ref a] _ _ hr e0 (hbind s₁ (.ref a)) (.cons rfl .nil) (hsp H hO hS)) fun r s' h=>?_
  cases r with
  | error e=>exact (hCX H e s' h).elim
  | ok fl =>
   cases fl with
   | next=>exact False.elim h
   | brk=>exact False.elim h
   | cont=>exact False.elim h
   | ret u =>
    obtain ⟨v,H',os,bare,un,hok',r',q⟩:=h
    have q':v=.bl true:=q
    subst q'
    obtain rfl:u=Value.bool true:=r'
    refine⟨rfl,OldK.of_keep fun b o e=>?_,os,bare⟩
    cases q:H b with
    | none=>exact un.keep b o e q (by intro z;exact absurd (show b∈([]:List Addr) from z) (by simp)) (by simp)
    | some u =>
     rcases hO b with z | ⟨ob,xs,z⟩
     ·rw [q] at z;cases z
     ·have z2:=un.frzs b ob _ z
      obtain ⟨e1,_⟩:=hok b _ z
      obtain ⟨e2,_⟩:=hok' b _ z2
      rw [e] at e1;cases e1
      exact e2
 cases hk:K.lookup a with
 | some o =>
  have e:=KX a o hk
  rw [ha] at e
  cases e
  refine core (fun _=>none) (fun _=>.inl rfl) (.inr ⟨_,vs.toArray,_,hk,rfl,rfl,rfl,by rw [List.size_toArray,lenV];exact hl,by simpa using rv⟩) (fun b u z=>by have z':(none:Option HO)=some u:=z;cases z') (fun b z=>absurd rfl z) fun z=>absurd rfl z
 | none =>
  refine core (fun b=>if b=a then some (.frz { cls:=.type "list",data:=.seq vs.toArray } (.lst (ns.map V.int))) else none) (fun b=>?_) (.inl (.inr ⟨{ cls:=.type "list",data:=.seq vs.toArray },if_pos rfl⟩)) (fun b u z=>?_) (fun b z=>?_) fun _=>hk
  ·by_cases hb:b=a
   ·exact .inr ⟨_,_,if_pos hb⟩
   ·exact .inl (if_neg hb)
  ·by_cases hb:b=a
   ·have z':=(if_pos hb).symm.trans z
    cases z'
    subst hb
    exact⟨ha,by rw [List.length_map];exact hl,vs,_,rv,ha⟩
   ·have z':=(if_neg hb).symm.trans z
    cases z'
  ·by_cases hb:b=a
   ·exact hb
   ·exact absurd (if_neg hb) z
end L2
namespace L2
open PySem PySem.Spec PyProof.Rows
end L2
namespace L2
open PySem PySem.Spec PyProof.Rows
abbrev CX0:CXT:=fun _ _ _ _ _ _=>False
abbrev E0:XK:=fun _ _ _=>False
theorem tR {X:Cx}:qi CX0 X E0:=fun _ _ _ _ _ _ _ h=>h.elim
structure Fun (K:PySem.W.Frag) (x qual:Str) (st:Stmt) (f:Addr) (fd:FuncData):Prop where
 ex:∃ (oc:Value) (od:Option Addr) (kV doc pm:Value) (an:Option Addr) (cdv ct:Value) (osl:Array (Option Value)),
  fd=PySem.W.fnOf x qual (ce st) (a9 st) (ak st) .none kV doc pm an cdv ct∧K.lookup f=some ⟨oc,od,.func fd,osl⟩∧PySem.W.codeIn K cdv qual=true
 kp:PySem.W.keepIn K (.ref f)=true
section
variable {P:Program} {w:World} {K:PySem.W.Frag} {mg:Str→Option Value} {base:Heap}
theorem Fun.ok {x qual:Str} {st:Stmt} {f:Addr} {fd:FuncData} {N ps:List Str} {k:Nat} {sp:Sp} (F:Fun K x qual st f fd) (S:ax N ps (ak st)) (len:∀ vs H Q E,sp vs H Q E→vs.length=ps.length)
    (hbody:∀ (cdv:Value) (A:Around) (outer:List Env) (s:Shared) (H:Hp) (vs:List V) (Q:VK) (E:XK),Room k (A.deeper (envOfC qual (ak st) s.heap.objs.size f cdv))→sp vs H Q E →
      ∃ t,PSs (cxOf CX0 P w K mg base N qual (ak st) f cdv A outer s H E).nox (a9 st) t∧t { nx:=fun _ H'=>Q .non H',rt:=Q } (start N vs) H):FnOk P w K mg base CX0 (k + 1) f fd ps sp:=by
  obtain ⟨oc,od,kV,doc,pm,an,cdv,ct,osl,rfl,lk,hcd⟩:=F.ex
  refine Bh lk hcd S len fun A outer s H vs Q E hr hsp=>?_
  obtain ⟨t,h,q⟩:=hbody cdv A outer s H vs Q E hr hsp
  exact⟨t,h.nox,q⟩
theorem Fun.binds {x qual:Str} {st:Stmt} {f:Addr} {fd:FuncData} {ps:List Str} (F:Fun K x qual st f fd)
  (h:∀ (kV doc pm:Value) (an:Option Addr) (cdv ct:Value) (us:List Value),us.length=ps.length→bindArgs (PySem.W.fnOf x qual (ce st) (a9 st) (ak st) .none kV doc pm an cdv ct) ⟨us,[]⟩=pure (ps.zip us)):jW K fd ps []:=by
 obtain ⟨oc,od,kV,doc,pm,an,cdv,ct,osl,rfl,lk,hcd⟩:=F.ex
 exact .all (h kV doc pm an cdv ct)
theorem vf {x qual:Str} {st:Stmt} {f:Addr} {oc:Value} {od an:Option Addr} {osl:Array (Option Value)} {kV doc pm cdv ct:Value} (l:K.lookup f=some ⟨oc,od,.func (PySem.W.fnOf x qual (ce st) (a9 st) (ak st) .none kV doc pm an cdv ct),osl⟩)
  (c:PySem.W.codeIn K cdv qual=true) (k:PySem.W.keepIn K (.ref f)=true):Fun K x qual st f (PySem.W.fnOf x qual (ce st) (a9 st) (ak st) .none kV doc pm an cdv ct):=⟨⟨oc,od,kV,doc,pm,an,cdv,ct,osl,rfl,l,c⟩,k⟩
end
section
variable {X:Cx}
end
theorem ite2 {c A B:Prop} [Decidable c] (h1:c→A) (h2:¬ c→B):if c then A else B:=by
 by_cases h:c
 ·rw [if_pos h]
  exact h1 h
 ·rw [if_neg h]
  exact h2 h
def Same (H H':Hp):Prop:=∀ b o,H b=some o→H' b=some o
theorem Same.refl (H:Hp):Same H H:=fun _ _ h=>h
theorem Same.trans {H H1 H2:Hp} (a:Same H H1) (b:Same H1 H2):Same H H2:=fun c o h=>b c o (a c o h)
theorem Same.seq {K:PySem.W.Frag} {H H':Hp} {a:Addr} {xs:List V} (e:Same H H') (h:SqL K H a xs):SqL K H' a xs:=by
 rcases h with (h | ⟨o,h⟩) | h
 ·exact .inl (.inl (e _ _ h))
 ·exact .inl (.inr ⟨o,e _ _ h⟩)
 ·exact .inr h
section
variable {κ:Type} [DecidableEq κ]
end
end L2
namespace DL
open PySem L2
inductive D where
 | non | bl (b:Bool) | int (i:Int) | str (x:Str)
 | tup (xs:List D) | lst (xs:List D) | fz (xs:List D) | dct (ks:List Str) (vs:List D) | fd (ks:List Str) (vs:List D) | fo (o:Obj) (ks:List Str) (vs:List D)
mutual
def D.im:D→Bool
 | .tup xs=>D.ims xs
 | .lst _=>false
 | .fz xs=>D.ims xs
 | .dct _ _=>false
 | .fd _ xs=>D.ims xs
 | .fo _ _ xs=>D.ims xs
 | .non=>true
 | .bl _=>true
 | .int _=>true
 | .str _=>true
def D.ims:List D→Bool
 | []=>true
 | x :: r=>D.im x && D.ims r
end
def aP (ks:List Str) (vs:List V):List (Key×V):=(ks.map Sum.inr).zip vs
def H0:Hp:=fun _=>none
def FzAt (K:PySem.W.Frag) (H:Hp) (a:Addr) (vs:List V):Prop:=(∃ o,H a=some (.frz o (.lst vs)))∨SqL K H0 a vs
mutual
def Rep (K:PySem.W.Frag) (M:Addr→Prop) (H:Hp):D→V→Prop
 | .non,v=>v=.non
 | .bl b,v=>v=.bl b
 | .int i,v=>v=.int i
 | .str x,v=>v=.str x
 | .tup ds,v=>∃ a vs,v=.ref a∧SqT K H a vs∧Reps K M H ds vs
 | .lst ds,v=>∃ a vs,v=.ref a∧¬ M a∧H a=some (.lst vs)∧Reps K M H ds vs
 | .fz ds,v=>∃ a vs,v=.ref a∧FzAt K H a vs∧Reps K M H ds vs
 | .dct ks ds,v=>∃ a vs,v=.ref a∧¬ M a∧H a=some (.dK (aP ks vs))∧ks.length=ds.length∧Reps K M H ds vs
 | .fd ks ds,v=>∃ a vs o,v=.ref a∧H a=some (.frz o (.dK (aP ks vs)))∧ks.length=ds.length∧Reps K M H ds vs
 | .fo o ks ds,v=>∃ a vs,v=.ref a∧H a=some (.frz o (.dK (aP ks vs)))∧ks.length=ds.length∧Reps K M H ds vs
def Reps (K:PySem.W.Frag) (M:Addr→Prop) (H:Hp):List D→List V→Prop
 | [],vs=>vs=[]
 | d :: ds,vs=>∃ v r,vs=v :: r∧Rep K M H d v∧Reps K M H ds r
end
structure Kp (M:Addr→Prop) (H H':Hp):Prop where
 un:∀ b o,H b=some o→¬ M b→H' b=some o
 tu:∀ b xs,H b=some (.tup xs)→H' b=some (.tup xs)
 fr:∀ b o u,H b=some (.frz o u)→H' b=some (.frz o u)
theorem Kp.of_same {M:Addr→Prop} {H H':Hp} (h:Same H H'):Kp M H H':=⟨fun b o e _=>h b o e,fun b xs e=>h b _ e,fun b o u e=>h b _ e⟩
theorem Kp.refl {M:Addr→Prop} {H:Hp}:Kp M H H:=Kp.of_same (Same.refl H)
section
variable {K:PySem.W.Frag} {M M':Addr→Prop} {H H':Hp}
theorem SqT.kp {a:Addr} {vs:List V} (k:Kp M H H') (h:SqT K H a vs):SqT K H' a vs:=by
 rcases h with (h | ⟨o,h⟩) | h
 ·exact .inl (.inl (k.tu _ _ h))
 ·exact .inl (.inr ⟨o,k.fr _ _ _ h⟩)
 ·exact .inr h
theorem FzAt.kp {a:Addr} {vs:List V} (k:Kp M H H') (h:FzAt K H a vs):FzAt K H' a vs:=by
 rcases h with ⟨o,h⟩ | h
 ·exact .inl ⟨o,k.fr _ _ _ h⟩
 ·exact .inr h
theorem FzAt.seq {a:Addr} {vs:List V} (h:FzAt K H a vs):SqL K H a vs:=by
 rcases h with ⟨o,h⟩ | (h | ⟨o,h⟩) | h
 ·exact .inl (.inr ⟨o,h⟩)
 ·cases h
 ·cases h
 ·exact .inr h
mutual
theorem Rep.kp (k:Kp M H H'):∀ (d:D) (v:V),Rep K M H d v→Rep K M H' d v
 | .non,v,h=>by unfold Rep at h ⊢;exact h
 | .bl b,v,h=>by unfold Rep at h ⊢;exact h
 | .int i,v,h=>by unfold Rep at h ⊢;exact h
 | .str x,v,h=>by unfold Rep at h ⊢;exact h
 | .tup ds,v,h=>by
  unfold Rep at h ⊢
  obtain ⟨a,vs,e,q,r⟩:=h
  exact⟨a,vs,e,SqT.kp k q,Reps.kp k ds vs r⟩
 | .lst ds,v,h=>by
  unfold Rep at h ⊢
  obtain ⟨a,vs,e,n,q,r⟩:=h
  exact⟨a,vs,e,n,k.un _ _ q n,Reps.kp k ds vs r⟩
 | .fz ds,v,h=>by
  unfold Rep at h ⊢
  obtain ⟨a,vs,e,q,r⟩:=h
  exact⟨a,vs,e,q.kp k,Reps.kp k ds vs r⟩
 | .dct ks ds,v,h=>by
  unfold Rep at h ⊢
  obtain ⟨a,vs,e,n,q,l,r⟩:=h
  exact⟨a,vs,e,n,k.un _ _ q n,l,Reps.kp k ds vs r⟩
 | .fd ks ds,v,h=>by
  unfold Rep at h ⊢
  obtain ⟨a,vs,o,e,q,l,r⟩:=h
  exact⟨a,vs,o,e,k.fr _ _ _ q,l,Reps.kp k ds vs r⟩
 | .fo o ks ds,v,h=>by
  unfold Rep at h ⊢
  obtain ⟨a,vs,e,q,l,r⟩:=h
  exact⟨a,vs,e,k.fr _ _ _ q,l,Reps.kp k ds vs r⟩
theorem Reps.kp (k:Kp M H H'):∀ (ds:List D) (vs:List V),Reps K M H ds vs→Reps K M H' ds vs
 | [],vs,h=>by unfold Reps at h ⊢;exact h
 | d :: ds,vs,h=>by
  unfold Reps at h ⊢
  obtain ⟨v,r,e,q,s⟩:=h
  exact⟨v,r,e,Rep.kp k d v q,Reps.kp k ds r s⟩
end
mutual
theorem Rep.more (hM:∀ b,M' b→M b∨H b=none):∀ (d:D) (v:V),Rep K M H d v→Rep K M' H d v
 | .non,v,h=>by unfold Rep at h ⊢;exact h
 | .bl b,v,h=>by unfold Rep at h ⊢;exact h
 | .int i,v,h=>by unfold Rep at h ⊢;exact h
 | .str x,v,h=>by unfold Rep at h ⊢;exact h
 | .tup ds,v,h=>by
  unfold Rep at h ⊢
  obtain ⟨a,vs,e,q,r⟩:=h
  exact⟨a,vs,e,q,Reps.more hM ds vs r⟩
 | .lst ds,v,h=>by
  unfold Rep at h ⊢
  obtain ⟨a,vs,e,n,q,r⟩:=h
  exact⟨a,vs,e,fun z=>(hM _ z).elim n (fun e=>by rw [q] at e;cases e),q,Reps.more hM ds vs r⟩
 | .fz ds,v,h=>by
  unfold Rep at h ⊢
  obtain ⟨a,vs,e,q,r⟩:=h
  exact⟨a,vs,e,q,Reps.more hM ds vs r⟩
 | .dct ks ds,v,h=>by
  unfold Rep at h ⊢
  obtain ⟨a,vs,e,n,q,l,r⟩:=h
  exact⟨a,vs,e,fun z=>(hM _ z).elim n (fun e=>by rw [q] at e;cases e),q,l,Reps.more hM ds vs r⟩
 | .fd ks ds,v,h=>by
  unfold Rep at h ⊢
  obtain ⟨a,vs,o,e,q,l,r⟩:=h
  exact⟨a,vs,o,e,q,l,Reps.more hM ds vs r⟩
 | .fo o ks ds,v,h=>by
  unfold Rep at h ⊢
  obtain ⟨a,vs,e,q,l,r⟩:=h
  exact⟨a,vs,e,q,l,Reps.more hM ds vs r⟩
theorem Reps.more (hM:∀ b,M' b→M b∨H b=none):∀ (ds:List D) (vs:List V),Reps K M H ds vs→Reps K M' H ds vs
 | [],vs,h=>by unfold Reps at h ⊢;exact h
 | d :: ds,vs,h=>by
  unfold Reps at h ⊢
  obtain ⟨v,r,e,q,s⟩:=h
  exact⟨v,r,e,Rep.more hM d v q,Reps.more hM ds r s⟩
end
mutual
theorem Rep.im:∀ (d:D) (v:V),d.im=true→Rep K M H d v→Rep K M' H d v
 | .non,v,_,h=>by unfold Rep at h ⊢;exact h
 | .bl b,v,_,h=>by unfold Rep at h ⊢;exact h
 | .int i,v,_,h=>by unfold Rep at h ⊢;exact h
 | .str x,v,_,h=>by unfold Rep at h ⊢;exact h
 | .tup ds,v,i,h=>by
  unfold Rep at h ⊢
  obtain ⟨a,vs,e,q,r⟩:=h
  unfold D.im at i
  exact⟨a,vs,e,q,Reps.im ds vs i r⟩
 | .lst ds,v,i,h=>by unfold D.im at i;cases i
 | .fz ds,v,i,h=>by
  unfold Rep at h ⊢
  obtain ⟨a,vs,e,q,r⟩:=h
  unfold D.im at i
  exact⟨a,vs,e,q,Reps.im ds vs i r⟩
 | .dct ks ds,v,i,h=>by unfold D.im at i;cases i
 | .fd ks ds,v,i,h=>by
  unfold Rep at h ⊢
  obtain ⟨a,vs,o,e,q,l,r⟩:=h
  unfold D.im at i
  exact⟨a,vs,o,e,q,l,Reps.im ds vs i r⟩
 | .fo o ks ds,v,i,h=>by
  unfold Rep at h ⊢
  obtain ⟨a,vs,e,q,l,r⟩:=h
  unfold D.im at i
  exact⟨a,vs,e,q,l,Reps.im ds vs i r⟩
theorem Reps.im:∀ (ds:List D) (vs:List V),D.ims ds=true→Reps K M H ds vs→Reps K M' H ds vs
 | [],vs,_,h=>by unfold Reps at h ⊢;exact h
 | d :: ds,vs,i,h=>by
  unfold Reps at h ⊢
  obtain ⟨v,r,e,q,s⟩:=h
  unfold D.ims at i
  obtain ⟨i1,i2⟩:=Bool.and_eq_true_iff.mp i
  exact⟨v,r,e,Rep.im d v i1 q,Reps.im ds r i2 s⟩
end
theorem Reps.length:∀ (ds:List D) (vs:List V),Reps K M H ds vs→ds.length=vs.length
 | [],vs,h=>by unfold Reps at h;subst h;rfl
 | d :: ds,vs,h=>by
  unfold Reps at h
  obtain ⟨v,r,rfl,q,s⟩:=h
  rw [List.length_cons,List.length_cons,Reps.length ds r s]
theorem Reps.get:∀ (ds:List D) (vs:List V),Reps K M H ds vs→∀ (i:Nat) (d:D),ds[i]?=some d→∃ v,vs[i]?=some v∧Rep K M H d v
 | [],vs,h,i,d,e=>by simp at e
 | d :: ds,vs,h,i,d',e=>by
  unfold Reps at h
  obtain ⟨v,r,rfl,q,s⟩:=h
  cases i with
  | zero=>simp at e;subst e;exact⟨v,rfl,q⟩
  | succ i=>exact Reps.get ds r s i d' (by simpa using e)
theorem Reps.of:∀ (ds:List D) (vs:List V),ds.length=vs.length→(∀ (i:Nat) d v,ds[i]?=some d→vs[i]?=some v→Rep K M H d v)→Reps K M H ds vs
 | [],vs,l,_=>by unfold Reps;exact List.length_eq_zero_iff.mp l.symm
 | d :: ds,[],l,_=>by cases l
 | d :: ds,v :: vs,l,h=>by
  unfold Reps
  exact⟨v,vs,rfl,h 0 d v rfl rfl,Reps.of ds vs (Nat.succ.inj l) fun i d' v' e e'=>h (i + 1) d' v' (by simpa using e) (by simpa using e')⟩
theorem Reps.append:∀ (ds es:List D) (vs ws:List V),Reps K M H ds vs→Reps K M H es ws→Reps K M H (ds++es) (vs++ws)
 | [],es,vs,ws,h,k=>by unfold Reps at h;subst h;exact k
 | d :: ds,es,vs,ws,h,k=>by
  unfold Reps at h
  obtain ⟨v,r,rfl,q,s⟩:=h
  show Reps K M H (d :: (ds++es)) (v :: (r++ws))
  unfold Reps
  exact⟨v,r++ws,rfl,q,Reps.append ds es r ws s k⟩
theorem Reps.one {d:D} {v:V} (h:Rep K M H d v):Reps K M H [d] [v]:=by
 unfold Reps
 exact⟨v,[],rfl,h,by unfold Reps;rfl⟩
theorem Reps.nil:Reps K M H [] []:=by unfold Reps;rfl
theorem Reps.cons {d:D} {v:V} {ds:List D} {vs:List V} (h:Rep K M H d v) (r:Reps K M H ds vs):Reps K M H (d :: ds) (v :: vs):=by
 unfold Reps
 exact⟨v,vs,rfl,h,r⟩
theorem Reps.take:∀ (n:Nat) (ds:List D) (vs:List V),Reps K M H ds vs→Reps K M H (ds.take n) (vs.take n)
 | 0,ds,vs,h=>by simpa using Reps.nil
 | n + 1,[],vs,h=>by unfold Reps at h;subst h;simpa using Reps.nil
 | n + 1,d :: ds,vs,h=>by
  unfold Reps at h
  obtain ⟨v,r,rfl,q,s⟩:=h
  exact Reps.cons q (Reps.take n ds r s)
theorem Reps.drop:∀ (n:Nat) (ds:List D) (vs:List V),Reps K M H ds vs→Reps K M H (ds.drop n) (vs.drop n)
 | 0,ds,vs,h=>h
 | n + 1,[],vs,h=>by unfold Reps at h;subst h;simpa using Reps.nil
 | n + 1,d :: ds,vs,h=>by
  unfold Reps at h
  obtain ⟨v,r,rfl,q,s⟩:=h
  exact Reps.drop n ds r s
theorem Reps.set {d:D} {v:V} (h:Rep K M H d v):∀ (i:Nat) (ds:List D) (vs:List V),Reps K M H ds vs→Reps K M H (ds.set i d) (vs.set i v)
 | _,[],vs,r=>by unfold Reps at r;subst r;exact Reps.nil
 | 0,x :: ds,vs,r=>by
  unfold Reps at r
  obtain ⟨w,r,rfl,q,s⟩:=r
  exact Reps.cons h s
 | i + 1,x :: ds,vs,r=>by
  unfold Reps at r
  obtain ⟨w,r,rfl,q,s⟩:=r
  exact Reps.cons q (Reps.set h i ds r s)
theorem Reps.ints (ns:List Int):Reps K M H (ns.map D.int) (ns.map V.int):=by
 induction ns with
 | nil=>exact Reps.nil
 | cons n r ih=>exact Reps.cons (by unfold Rep;rfl) ih
end
inductive Sl where
 | no | dat (d:D) | own (a:Addr) (d:D)
structure Gf where
 M0:Addr→Prop
 H0:Hp
 Pm:Addr→Prop
def bA (K:PySem.W.Frag) (M:Addr→Prop) (H:Hp) (a:Addr):D→Prop
 | .lst ds=>∃ vs,H a=some (.lst vs)∧Reps K M H ds vs
 | .dct ks ds=>∃ vs,H a=some (.dK (aP ks vs))∧ks.length=ds.length∧Reps K M H ds vs
 | _=>False
structure Sx (K:PySem.W.Frag) (G:Gf) (A:Addr→Prop) (δ:List Sl) (P:List (D×V)) (σ:St) (H:Hp):Prop where
 old:∀ b o,G.H0 b=some o→¬ G.Pm b→H b=some o
 stay:∀ b,G.H0 b≠none→H b≠none
 m0:∀ b,G.M0 b→G.H0 b≠none
 pm:∀ b,G.Pm b→G.H0 b≠none∧¬ G.M0 b
 new:∀ b,A b→G.H0 b=none∨G.Pm b
 thr:∀ b,A b→H b≠none
 len:δ.length=σ.length
 dat:∀ (i:Nat) d,δ[i]?=some (.dat d)→∃ v,σ[i]?=some (some v)∧Rep K (fun b=>G.M0 b∨A b) H d v
 own:∀ (i:Nat) a d,δ[i]?=some (.own a d)→σ[i]?=some (some (.ref a))∧A a∧bA K (fun b=>G.M0 b∨A b) H a d
 inj:∀ (i j:Nat) a d e,δ[i]?=some (.own a d)→δ[j]?=some (.own a e)→i=j
 pnd:∀ p∈P,Rep K (fun b=>G.M0 b∨A b) H p.1 p.2
def S (K:PySem.W.Frag) (G:Gf) (δ:List Sl) (P:List (D×V)) (σ:St) (H:Hp):Prop:=∃ A,Sx K G A δ P σ H
inductive aS (K:PySem.W.Frag) (f:List D→(D→Prop)→Prop) (vs:List V) (H:Hp) (Q:VK):Prop
 | mk (M:Addr→Prop) (ds:List D) (R:D→Prop) (m:∀ b,M b→H b≠none) (rs:Reps K M H ds vs) (h:f ds R) (k:∀ d,R d→∀ v H',Same H H'→Rep K M H' d v→Q v H')
section
variable {K:PySem.W.Frag} {G:Gf} {A:Addr→Prop} {δ:List Sl} {P P':List (D×V)} {σ:St} {H H':Hp}
theorem bA.kp {M:Addr→Prop} {a:Addr} {d:D} (k:Kp M H H') (e:H' a=H a) (h:bA K M H a d):bA K M H' a d:=by
 cases d with
 | lst ds =>
  obtain ⟨vs,q,r⟩:=h
  exact⟨vs,e.trans q,Reps.kp k _ _ r⟩
 | dct ks ds =>
  obtain ⟨vs,q,l,r⟩:=h
  exact⟨vs,e.trans q,l,Reps.kp k _ _ r⟩
 | _=>exact h.elim
theorem bA.more {M M':Addr→Prop} {a:Addr} {d:D} (hM:∀ b,M' b→M b∨H b=none) (h:bA K M H a d):bA K M' H a d:=by
 cases d with
 | lst ds =>
  obtain ⟨vs,q,r⟩:=h
  exact⟨vs,q,Reps.more hM _ _ r⟩
 | dct ks ds =>
  obtain ⟨vs,q,l,r⟩:=h
  exact⟨vs,q,l,Reps.more hM _ _ r⟩
 | _=>exact h.elim
theorem Sx.sub (s:Sx K G A δ P σ H) (h:∀ p∈P',p∈P):Sx K G A δ P' σ H :=
 ⟨s.old,s.stay,s.m0,s.pm,s.new,s.thr,s.len,s.dat,s.own,s.inj,fun p hp=>s.pnd p (h p hp)⟩
theorem S.sub (s:S K G δ P σ H) (h:∀ p∈P',p∈P):S K G δ P' σ H:=let ⟨A,x⟩:=s;⟨A,x.sub h⟩
theorem Sx.same (s:Sx K G A δ P σ H) (h:Same H H'):Sx K G A δ P σ H' where
 old:=fun b o e n=>h b o (s.old b o e n)
 stay:=fun b e=>by
  cases q:H b with
  | none=>exact absurd q (s.stay b e)
  | some o=>rw [h b o q];exact fun z=>nomatch z
 m0:=s.m0
 pm:=s.pm
 new:=s.new
 thr:=fun b e=>by
  cases q:H b with
  | none=>exact absurd q (s.thr b e)
  | some o=>rw [h b o q];exact fun z=>nomatch z
 len:=s.len
 dat:=fun i d e=>let ⟨v,q,r⟩:=s.dat i d e;⟨v,q,Rep.kp (Kp.of_same h) _ _ r⟩
 own:=fun i a d e=>by
  obtain ⟨q,a1,o⟩:=s.own i a d e
  refine⟨q,a1,bA.kp (Kp.of_same h) ?_ o⟩
  cases z:H a with
  | none=>exact absurd z (s.thr a a1)
  | some o=>exact h a o z
 inj:=s.inj
 pnd:=fun p hp=>Rep.kp (Kp.of_same h) _ _ (s.pnd p hp)
theorem Sx.push (s:Sx K G A δ P σ H) {d:D} {v:V} (h:Rep K (fun b=>G.M0 b∨A b) H d v):Sx K G A δ ((d,v) :: P) σ H :=
 ⟨s.old,s.stay,s.m0,s.pm,s.new,s.thr,s.len,s.dat,s.own,s.inj,fun p hp=>by
  rcases List.mem_cons.mp hp with rfl | hp
  ·exact h
  ·exact s.pnd p hp⟩
theorem Sx.mem (s:Sx K G A δ P σ H):∀ b,(G.M0 b∨A b)→H b≠none:=fun b h=>h.elim (fun z=>s.stay b (s.m0 b z)) fun z=>s.thr b z
theorem Sx.reps (s:Sx K G A δ P σ H):∀ (ds:List D) (vs:List V),ds.length=vs.length→(∀ p∈ds.zip vs,p∈P)→Reps K (fun b=>G.M0 b∨A b) H ds vs
 | [],[],_,_=>Reps.nil
 | d :: ds,v :: vs,l,h=>Reps.cons (s.pnd (d,v) (h _ (List.mem_cons_self ..))) (Sx.reps s ds vs (Nat.succ.inj l) fun p hp=>h p (List.mem_cons_of_mem _ hp))
theorem S.pure {f:List D→(D→Prop)→Prop} {ds:List D} {vs:List V} {R:D→Prop} {Q:VK} (s:S K G δ P σ H) (hl:ds.length=vs.length) (hp:∀ p∈ds.zip vs,p∈P) (hs:∀ p∈P',p∈P) (hf:f ds R)
  (h:∀ d,R d→∀ v H',S K G δ ((d,v) :: P') σ H'→Q v H'):aS K f vs H Q:=by
 obtain ⟨A,x⟩:=s
 refine⟨fun b=>G.M0 b∨A b,ds,R,x.mem,x.reps ds vs hl hp,hf,fun d r v H' sm rp=>h d r v H' ⟨A,?_⟩⟩
 exact ((x.same sm).sub hs).push rp
theorem Sx.set {i:Nat} {d:D} {v:V} (s:Sx K G A δ P σ H) (hp:(d,v)∈P) (hs:∀ p∈P',p∈P):Sx K G A (δ.set i (.dat d)) P' (σ.set i (some v)) H where
 old:=s.old
 stay:=s.stay
 m0:=s.m0
 pm:=s.pm
 new:=s.new
 thr:=s.thr
 len:=by rw [List.length_set,List.length_set,s.len]
 dat:=fun j d' e=>by
  by_cases hij:i=j
  ·subst hij
   by_cases hl:i < δ.length
   ·rw [List.getElem?_set_self hl] at e
    cases e
    exact⟨v,by rw [List.getElem?_set_self (by rw [← s.len];exact hl)],s.pnd _ hp⟩
   ·rw [List.getElem?_eq_none (by rw [List.length_set];omega)] at e
    cases e
  ·rw [List.getElem?_set_ne hij] at e
   obtain ⟨v',q,r⟩:=s.dat j d' e
   exact⟨v',by rw [List.getElem?_set_ne hij];exact q,r⟩
 own:=fun j a d' e=>by
  by_cases hij:i=j
  ·subst hij
   by_cases hl:i < δ.length
   ·rw [List.getElem?_set_self hl] at e
    cases e
   ·rw [List.getElem?_eq_none (by rw [List.length_set];omega)] at e
    cases e
  ·rw [List.getElem?_set_ne hij] at e
   obtain ⟨q,r⟩:=s.own j a d' e
   exact⟨by rw [List.getElem?_set_ne hij];exact q,r⟩
 inj:=fun j k a d' e' h1 h2=>by
  have hj:δ[j]?=some (.own a d'):=by
   by_cases hij:i=j
   ·subst hij
    by_cases hl:i < δ.length
    ·rw [List.getElem?_set_self hl] at h1;cases h1
    ·rw [List.getElem?_eq_none (by rw [List.length_set];omega)] at h1;cases h1
   ·rw [List.getElem?_set_ne hij] at h1;exact h1
  have hk:δ[k]?=some (.own a e'):=by
   by_cases hij:i=k
   ·subst hij
    by_cases hl:i < δ.length
    ·rw [List.getElem?_set_self hl] at h2;cases h2
    ·rw [List.getElem?_eq_none (by rw [List.length_set];omega)] at h2;cases h2
   ·rw [List.getElem?_set_ne hij] at h2;exact h2
  exact s.inj j k a d' e' hj hk
 pnd:=fun p h=>s.pnd p (hs p h)
theorem S.set {i:Nat} {d:D} {v:V} (s:S K G δ P σ H) (hp:(d,v)∈P) (hs:∀ p∈P',p∈P):S K G (δ.set i (.dat d)) P' (σ.set i (some v)) H:=let ⟨A,x⟩:=s;⟨A,x.set hp hs⟩
end
end DL
namespace DL
open PySem L2
section
variable {K:PySem.W.Frag} {G:Gf} {A:Addr→Prop} {δ:List Sl} {P P':List (D×V)} {σ:St} {H H':Hp}
theorem aU {α:Type} {l:List α} {i j:Nat} {x y:α} (h:(l.set i x)[j]?=some y):(i=j∧x=y∧i < l.length)∨(i≠j∧l[j]?=some y):=by
 by_cases e:i=j
 ·subst e
  by_cases hl:i < l.length
  ·rw [List.getElem?_set_self hl] at h
   exact .inl ⟨rfl,Option.some.inj h,hl⟩
  ·rw [List.getElem?_eq_none (by rw [List.length_set];omega)] at h
   cases h
 ·rw [List.getElem?_set_ne e] at h
  exact .inr ⟨e,h⟩
theorem Sx.claim {i:Nat} {a:Addr} {d:D} (s:Sx K G A δ P σ H) (hn:H a=none) (hs:Same H H') (ho:bA K (fun b=>(G.M0 b∨A b)∨b=a) H' a d) (hP:∀ p∈P',p∈P) :
  Sx K G (fun b=>A b∨b=a) (δ.set i (.own a d)) P' (σ.set i (some (.ref a))) H':=by
 have x:=s.same hs
 have hM:∀ b,(G.M0 b∨(A b∨b=a))→(G.M0 b∨A b)∨H b=none:=fun b h=>by
  rcases h with h | h | h
  ·exact .inl (.inl h)
  ·exact .inl (.inr h)
  ·subst h;exact .inr hn
 have hM2:∀ b,(G.M0 b∨(A b∨b=a))→((G.M0 b∨A b)∨b=a)∨H' b=none:=fun b h=>by
  rcases h with h | h | h
  ·exact .inl (.inl (.inl h))
  ·exact .inl (.inl (.inr h))
  ·exact .inl (.inr h)
 have up:∀ d v,Rep K (fun b=>G.M0 b∨A b) H d v→Rep K (fun b=>G.M0 b∨(A b∨b=a)) H' d v:=fun d v r=>Rep.kp (Kp.of_same hs) _ _ (Rep.more hM _ _ r)
 have na:∀ b,A b→b≠a:=fun b h e=>s.thr b h (by rw [e];exact hn)
 have h0:G.H0 a=none:=by
  cases q:G.H0 a with
  | none=>rfl
  | some o=>exact absurd hn (s.stay a (by rw [q];exact fun z=>nomatch z))
 have hne:H' a≠none:=by
  cases d with
  | lst ds=>obtain ⟨vs,q,_⟩:=ho;rw [q];exact fun z=>nomatch z
  | dct ks ds=>obtain ⟨vs,q,_⟩:=ho;rw [q];exact fun z=>nomatch z
  | _=>exact ho.elim
 refine⟨x.old,x.stay,x.m0,x.pm,fun b h=>h.elim (s.new b) fun e=>.inl (by rw [e];exact h0),fun b h=>h.elim (x.thr b) fun e=>by rw [e];exact hne,by rw [List.length_set,List.length_set,s.len],fun j d' e=>?_,fun j b d' e=>?_,
  fun j k b d' e' h1 h2=>?_,fun p hp=>up _ _ (s.pnd p (hP p hp))⟩
 ·rcases aU e with ⟨_,z,_⟩ | ⟨hij,e⟩
  ·cases z
  ·obtain ⟨v,q,r⟩:=s.dat j d' e
   exact⟨v,by rw [List.getElem?_set_ne hij];exact q,up _ _ r⟩
 ·rcases aU e with ⟨hij,z,hl⟩ | ⟨hij,e⟩
  ·cases z
   subst hij
   exact⟨by rw [List.getElem?_set_self (by rw [← s.len];exact hl)],.inr rfl,bA.more hM2 ho⟩
  ·obtain ⟨q,r,o⟩:=s.own j b d' e
   refine⟨by rw [List.getElem?_set_ne hij];exact q,.inl r,bA.kp (Kp.of_same hs) ?_ (bA.more hM o)⟩
   cases z:H b with
   | none=>exact absurd z (s.thr b r)
   | some o'=>exact hs b o' z
 ·rcases aU h1 with ⟨hij,z,hl⟩ | ⟨hij,e⟩
  ·cases z
   rcases aU h2 with ⟨hik,_,_⟩ | ⟨hik,e2⟩
   ·rw [← hij,← hik]
   ·exact absurd rfl (na _ (s.own k _ _ e2).2.1)
  ·rcases aU h2 with ⟨hik,z,_⟩ | ⟨hik,e2⟩
   ·cases z
    exact absurd rfl (na _ (s.own j _ _ e).2.1)
   ·exact s.inj j k b d' e' e e2
theorem Sx.change {i:Nat} {a:Addr} {d d':D} (s:Sx K G A δ P σ H) (hi:δ[i]?=some (.own a d)) (hk:∀ b o,b≠a→H b=some o→H' b=some o) (ho:bA K (fun b=>G.M0 b∨A b) H' a d') :
  Sx K G A (δ.set i (.own a d')) P σ H':=by
 obtain ⟨si,ai,oi⟩:=s.own i a d hi
 have hmu:(∀ xs,H a≠some (.tup xs))∧∀ o u,H a≠some (.frz o u):=by
  cases d with
  | lst ds=>obtain ⟨vs,q,_⟩:=oi;rw [q];exact⟨fun _ z=>(nomatch z),fun _ _ z=>(nomatch z)⟩
  | dct ks ds=>obtain ⟨vs,q,_⟩:=oi;rw [q];exact⟨fun _ z=>(nomatch z),fun _ _ z=>(nomatch z)⟩
  | _=>exact oi.elim
 have hne:H' a≠none:=by
  cases d' with
  | lst ds=>obtain ⟨vs,q,_⟩:=ho;rw [q];exact fun z=>nomatch z
  | dct ks ds=>obtain ⟨vs,q,_⟩:=ho;rw [q];exact fun z=>nomatch z
  | _=>exact ho.elim
 have kp:Kp (fun b=>G.M0 b∨A b) H H':=⟨fun b o e n=>hk b o (fun z=>n (.inr (by rw [z];exact ai))) e,fun b xs e=>hk b _ (fun z=>hmu.1 xs (by rw [← z];exact e)) e,
  fun b o u e=>hk b _ (fun z=>hmu.2 o u (by rw [← z];exact e)) e⟩
 have stay:∀ b,H b≠none→H' b≠none:=fun b e=>by
  by_cases z:b=a
  ·rw [z];exact hne
  ·cases q:H b with
   | none=>exact absurd q e
   | some o=>rw [hk b o z q];exact fun z=>nomatch z
 have na:∀ b o,G.H0 b=some o→¬ G.Pm b→b≠a:=fun b o e n z=>(s.new a ai).elim (fun q=>by rw [z] at e;rw [e] at q;cases q) fun q=>n (by rw [z];exact q)
 refine⟨fun b o e n=>hk b o (na b o e n) (s.old b o e n),fun b e=>stay b (s.stay b e),s.m0,s.pm,s.new,fun b e=>stay b (s.thr b e),by rw [List.length_set,s.len],fun j x e=>?_,fun j b x e=>?_,fun j k b x y h1 h2=>?_,
  fun p hp=>Rep.kp kp _ _ (s.pnd p hp)⟩
 ·rcases aU e with ⟨_,z,_⟩ | ⟨hij,e⟩
  ·cases z
  ·obtain ⟨v,q,r⟩:=s.dat j x e
   exact⟨v,q,Rep.kp kp _ _ r⟩
 ·rcases aU e with ⟨hij,z,hl⟩ | ⟨hij,e9⟩
  ·cases z
   subst hij
   exact⟨si,ai,ho⟩
  ·clear e
   obtain ⟨q,r,o⟩:=s.own j b x e9
   have hb:b≠a:=fun z=>by rw [z] at e9;exact hij (s.inj _ _ _ _ _ hi e9)
   refine⟨q,r,bA.kp kp ?_ o⟩
   cases z:H b with
   | none=>exact absurd z (s.thr b r)
   | some o'=>exact hk b o' hb z
 ·have hj:∃ x',δ[j]?=some (.own b x'):=by
   rcases aU h1 with ⟨hij,z,hl⟩ | ⟨hij,e⟩
   ·cases z;subst hij;exact⟨_,hi⟩
   ·exact⟨_,e⟩
  have hk':∃ x',δ[k]?=some (.own b x'):=by
   rcases aU h2 with ⟨hij,z,hl⟩ | ⟨hij,e⟩
   ·cases z;subst hij;exact⟨_,hi⟩
   ·exact⟨_,e⟩
  obtain ⟨x1,e1⟩:=hj
  obtain ⟨x2,e2⟩:=hk'
  exact s.inj j k b x1 x2 e1 e2
theorem bA.rep {M M':Addr→Prop} {a:Addr} {d:D} (h:bA K M H a d) (n:¬ M' a) (hM:∀ b,M' b→M b):Rep K M' H d (.ref a):=by
 cases d with
 | lst ds =>
  obtain ⟨vs,q,r⟩:=h
  unfold Rep
  exact⟨a,vs,rfl,n,q,Reps.more (fun b z=>.inl (hM b z)) _ _ r⟩
 | dct ks ds =>
  obtain ⟨vs,q,l,r⟩:=h
  unfold Rep
  exact⟨a,vs,rfl,n,q,l,Reps.more (fun b z=>.inl (hM b z)) _ _ r⟩
 | _=>exact h.elim
theorem Sx.freeze {i:Nat} {a:Addr} {d:D} (s:Sx K G A δ P σ H) (hi:δ[i]?=some (.own a d)) (hp:¬ G.M0 a):Sx K G (fun b=>A b∧b≠a) (δ.set i (.dat d)) P σ H:=by
 obtain ⟨si,ai,oi⟩:=s.own i a d hi
 have hM:∀ b,(G.M0 b∨(A b∧b≠a))→(G.M0 b∨A b):=fun b h=>h.elim .inl fun z=>.inr z.1
 have dn:∀ d v,Rep K (fun b=>G.M0 b∨A b) H d v→Rep K (fun b=>G.M0 b∨(A b∧b≠a)) H d v:=fun d v r=>Rep.more (fun b z=>.inl (hM b z)) _ _ r
 refine⟨s.old,s.stay,s.m0,s.pm,fun b h=>s.new b h.1,fun b h=>s.thr b h.1,by rw [List.length_set,s.len],fun j x e=>?_,fun j b x e=>?_,fun j k b x y h1 h2=>?_,fun p hp=>dn _ _ (s.pnd p hp)⟩
 ·rcases aU e with ⟨hij,z,_⟩ | ⟨hij,e⟩
  ·cases z;subst hij
   exact⟨.ref a,si,oi.rep (fun z=>z.elim hp fun q=>q.2 rfl) hM⟩
  ·obtain ⟨v,q,r⟩:=s.dat j x e
   exact⟨v,q,dn _ _ r⟩
 ·rcases aU e with ⟨_,z,_⟩ | ⟨hij,e9⟩
  ·cases z
  ·clear e
   obtain ⟨q,r,o⟩:=s.own j b x e9
   have hb:b≠a:=fun z=>by rw [z] at e9;exact hij (s.inj _ _ _ _ _ hi e9)
   exact⟨q,⟨r,hb⟩,bA.more (fun b z=>.inl (hM b z)) o⟩
 ·rcases aU h1 with ⟨_,z,_⟩ | ⟨_,e1⟩
  ·cases z
  ·rcases aU h2 with ⟨_,z,_⟩ | ⟨_,e2⟩
   ·cases z
   ·exact s.inj j k b x y e1 e2
end
end DL
namespace DL
open PySem PySem.Spec PyProof.Rows L2
inductive W where
 | d (x:D) | o (i:Nat)
abbrev En:=List Sl
abbrev TDE:=En→(W→En→Prop)→Prop
abbrev TDA:=En→(List D→En→Prop)→Prop
abbrev TDT:=En→(Bool→En→Prop)→Prop
structure fJ where
 nx:En→Prop
 rt:D→En→Prop
 bk:En→Prop:=fun _=>False
 ct:En→Prop:=fun _=>False
 ro:D→Prop:=fun _=>False
 tp:Prop:=False
abbrev TDS:=fJ→En→Prop
abbrev TDG:=D→En→(En→Prop)→Prop
abbrev TDGs:=List D→En→(En→Prop)→Prop
def wd (R:D→En→Prop):W→En→Prop
 | .d x,δ=>R x δ
 | .o _,_=>False
inductive Up (K:PySem.W.Frag) (t:TDE) (σ:L2.St) (H:Hp) (Q:VK):Prop
 | mk (G:Gf) (δ:En) (P:List (D×V)) (R:W→En→Prop) (s:S K G δ P σ H) (h:t δ R) (k:(∀ x δ',R (.d x) δ'→∀ v H',S K G δ' ((x,v) :: P) σ H'→Q v H')∧(∀ i δ',R (.o i) δ'→∀ a d H',S K G δ' P σ H'→δ'[i]?=some (.own a d)→Q (.ref a) H'))
def up (K:PySem.W.Frag) (t:TDE):TE:=Up K t
inductive UpA (K:PySem.W.Frag) (t:TDA) (σ:L2.St) (H:Hp) (Q:List V→Hp→Prop):Prop
 | mk (G:Gf) (δ:En) (P:List (D×V)) (R:List D→En→Prop) (s:S K G δ P σ H) (h:t δ R) (k:∀ ds δ',R ds δ'→∀ vs H',ds.length=vs.length→S K G δ' (ds.zip vs++P) σ H'→Q vs H')
def upA (K:PySem.W.Frag) (t:TDA):TA:=UpA K t
inductive UpT (K:PySem.W.Frag) (t:TDT) (σ:L2.St) (H:Hp) (Q:Bool→Hp→Prop):Prop
 | mk (G:Gf) (δ:En) (P:List (D×V)) (R:Bool→En→Prop) (s:S K G δ P σ H) (h:t δ R) (k:∀ b δ',R b δ'→∀ H',S K G δ' P σ H'→Q b H')
def upT (K:PySem.W.Frag) (t:TDT):TT:=UpT K t
inductive UpG (K:PySem.W.Frag) (t:TDG) (v:V) (σ:L2.St) (H:Hp) (Q:L2.St→Hp→Prop):Prop
 | mk (G:Gf) (δ:En) (P:List (D×V)) (d:D) (R:En→Prop) (s:S K G δ ((d,v) :: P) σ H) (h:t d δ R) (k:∀ δ',R δ'→∀ σ' H',S K G δ' P σ' H'→Q σ' H')
def upG (K:PySem.W.Frag) (t:TDG):TG:=UpG K t
inductive UpGs (K:PySem.W.Frag) (t:TDGs) (vs:List V) (σ:L2.St) (H:Hp) (Q:L2.St→Hp→Prop):Prop
 | mk (G:Gf) (δ:En) (P:List (D×V)) (ds:List D) (R:En→Prop) (hl:ds.length=vs.length) (s:S K G δ (ds.zip vs++P) σ H) (h:t ds δ R) (k:∀ δ',R δ'→∀ σ' H',S K G δ' P σ' H'→Q σ' H')
def upGs (K:PySem.W.Frag) (t:TDGs):TGs:=UpGs K t
def vn (K:PySem.W.Frag) (G:Gf) (H':Hp) (a:Addr) (d:D):Prop:=(∀ b o,G.H0 b=some o→¬ G.Pm b→H' b=some o)∧(G.H0 a=none∨G.Pm a)∧¬ G.M0 a∧bA K (fun b=>G.M0 b∨b=a) H' a d
inductive UpS (K:PySem.W.Frag) (t:TDS) (E:Ends) (σ:L2.St) (H:Hp):Prop
 | mk (G:Gf) (δ:En) (P:List (D×V)) (R:fJ) (s:S K G δ P σ H) (h:t R δ) (k:(∀ δ',R.nx δ'→∀ σ' H',S K G δ' P σ' H'→E.nx σ' H')∧((∀ d δ',R.rt d δ'→∀ v σ' H',S K G δ' ((d,v) :: P) σ' H'→E.rt v H')∧∀ d,R.ro d→∀ a H',vn K G H' a d→E.rt (.ref a) H') ∧
 (∀ δ',R.bk δ'→∀ σ' H',S K G δ' P σ' H'→E.bk σ' H')∧(∀ δ',R.ct δ'→∀ σ' H',S K G δ' P σ' H'→E.ct σ' H')∧(R.tp→P=[]∧∀ b o,G.H0 b=some o→∃ ob xs,o=.frz ob (.lst xs)))
def upS (K:PySem.W.Frag) (t:TDS):TS:=UpS K t
def DE (X:Cx) (e:Expr) (t:TDE):Prop:=PE X e (up X.K t)
def DA (X:Cx) (es:List Expr) (t:TDA):Prop:=PA X es (upA X.K t)
def DT (X:Cx) (e:Expr) (t:TDT):Prop:=PT X e (upT X.K t)
def DW (X:Cx) (e:Expr) (t:TDT):Prop:=PW X e (upT X.K t)
def DG (X:Cx) (e:Expr) (t:TDG):Prop:=PG X e (upG X.K t)
def DGs (X:Cx) (e:List Expr) (t:TDGs):Prop:=PGs X e (upGs X.K t)
def DS (X:Cx) (st:Stmt) (t:TDS):Prop:=PS X st (upS X.K t)
def DSs (X:Cx) (st:List Stmt) (t:TDS):Prop:=PSs X st (upS X.K t)
section
variable {X:Cx} {e:Expr} {pos:Pos}
theorem PE.imp {t t':TE} (h:PE X e t) (i:∀ σ H Q,t' σ H Q→t σ H Q):PE X e t':=fun pins s σ H Q I q=>h pins s σ H Q I (i σ H Q q)
theorem PT.imp {t t':TT} (h:PT X e t) (i:∀ σ H Q,t' σ H Q→t σ H Q):PT X e t':=fun pins s σ H Q I q=>h pins s σ H Q I (i σ H Q q)
theorem PW.imp {t t':TT} (h:PW X e t) (i:∀ σ H Q,t' σ H Q→t σ H Q):PW X e t':=fun wh pins s σ H Q I q=>h wh pins s σ H Q I (i σ H Q q)
theorem PA.imp {es:List Expr} {t t':TA} (h:PA X es t) (i:∀ σ H Q,t' σ H Q→t σ H Q):PA X es t':=fun p pins s σ H Q I q=>h p pins s σ H Q I (i σ H Q q)
theorem PS.imp {st:Stmt} {t t':TS} (h:PS X st t) (i:∀ E σ H,t' E σ H→t E σ H):PS X st t':=fun pins s σ H D I q=>h pins s σ H D I (i D σ H q)
theorem PSs.imp {st:List Stmt} {t t':TS} (h:PSs X st t) (i:∀ E σ H,t' E σ H→t E σ H):PSs X st t':=fun pins s σ H D I q=>h pins s σ H D I (i D σ H q)
theorem PG.imp {t t':TG} (h:PG X e t) (i:∀ v σ H Q,t' v σ H Q→t v σ H Q):PG X e t':=fun pins s σ H v u Q I r q=>h pins s σ H v u Q I r (i v σ H Q q)
theorem PGs.imp {es:List Expr} {t t':TGs} (h:PGs X es t) (i:∀ v σ H Q,t' v σ H Q→t v σ H Q):PGs X es t':=fun pins s σ H v u Q I r q=>h pins s σ H v u Q I r (i v σ H Q q)
theorem OpR.imp {f:Value→Value→Sem Value} {r r':R2} (h:OpR X f r) (i:∀ x y H Q,r' x y H Q→r x y H Q):OpR X f r':=fun pins s σ H x y v u Q I rx ry q=>h pins s σ H x y v u Q I rx ry (i x y H Q q)
theorem UnR.imp {f:Value→Sem Value} {r r':V→Hp→VK→Prop} (h:UnR X f r) (i:∀ x H Q,r' x H Q→r x H Q):UnR X f r':=fun pins s σ H x v Q I rx q=>h pins s σ H x v Q I rx (i x H Q q)
theorem cc.imp {f:Value} {r r':List V→Hp→VK→Prop} (h:cc X f r) (i:∀ xs H Q,r' xs H Q→r xs H Q):cc X f r':=fun pins s σ H x v Q I rx q=>h pins s σ H x v Q I rx (i x H Q q)
theorem IxR.imp {r r':R2} (h:IxR X r) (i:∀ x y H Q,r' x y H Q→r x y H Q):IxR X r':=fun value slice pins s σ H x y v u Q I rx ry q hs=>h value slice pins s σ H x y v u Q I rx ry (i x y H Q q) hs
end
section
variable {K:PySem.W.Frag} {G:Gf} {δ:En} {P:List (D×V)} {σ:L2.St} {H:Hp}
theorem up.mk {t:TDE} {R:D→En→Prop} {Q:VK} (s:S K G δ P σ H) (h:t δ (wd R)) (k:∀ x δ',R x δ'→∀ v H',S K G δ' ((x,v) :: P) σ H'→Q v H'):up K t σ H Q:=⟨G,δ,P,wd R,s,h,k,fun _ _ z=>z.elim⟩
theorem S.dat {i:Nat} {d:D} (s:S K G δ P σ H) (e:δ[i]?=some (.dat d)):∃ v,σ[i]?=some (some v)∧S K G δ ((d,v) :: P) σ H:=by
 obtain ⟨A,x⟩:=s
 obtain ⟨v,q,r⟩:=x.dat i d e
 exact⟨v,q,A,x.push r⟩
theorem S.own {i:Nat} {a:Addr} {d:D} (s:S K G δ P σ H) (e:δ[i]?=some (.own a d)):σ[i]?=some (some (.ref a)):=let ⟨_,x⟩:=s;(x.own i a d e).1
def sc:D→Option V
 | .non=>some .non
 | .bl b=>some (.bl b)
 | .int i=>some (.int i)
 | .str x=>some (.str x)
 | _=>none
theorem Rep.sc {M:Addr→Prop} {d:D} {v:V} (h:sc d=some v):Rep K M H d v:=by
 cases d<;>simp only [DL.sc,Option.some.injEq,reduceCtorEq] at h<;>subst h<;>unfold Rep<;>rfl
theorem S.sc {d:D} {v:V} (s:S K G δ P σ H) (h:sc d=some v):S K G δ ((d,v) :: P) σ H:=let ⟨A,x⟩:=s;⟨A,x.push (Rep.sc h)⟩
end
def dV (i:Nat):TDE:=fun δ R=>∃ d,δ[i]?=some (.dat d)∧R (.d d) δ
def dO (i:Nat):TDE:=fun δ R=>∃ a d,δ[i]?=some (.own a d)∧R (.o i) δ
def dC (d:D):TDE:=fun δ R=>R (.d d) δ
def dOp (f:List D→(D→Prop)→Prop) (ta tb:TDE):TDE:=fun δ R=>ta δ (wd fun x δ1=>tb δ1 (wd fun y δ2=>f [x,y] fun d=>R (.d d) δ2))
def dUn (f:List D→(D→Prop)→Prop) (ta:TDE):TDE:=fun δ R=>ta δ (wd fun x δ1=>f [x] fun d=>R (.d d) δ1)
def yI:TDA:=fun δ R=>R [] δ
def vc (te:TDE) (t:TDA):TDA:=fun δ R=>te δ (wd fun x δ1=>t δ1 fun ds δ2=>R (x :: ds) δ2)
def pC (f:List D→(D→Prop)→Prop) (t:TDA):TDE:=fun δ R=>t δ fun ds δ1=>f ds fun d=>R (.d d) δ1
def dTup (t:TDA):TDE:=fun δ R=>t δ fun ds δ1=>ds.length≤9000∧R (.d (.tup ds)) δ1
def dLst (t:TDA):TDE:=fun δ R=>t δ fun ds δ1=>ds.length≤9000∧R (.d (.lst ds)) δ1
def dTst (t:TDE):TDT:=fun δ R=>t δ (wd fun x δ1=>∃ b,x=.bl b∧R b δ1)
def dAnd (t u:TDT):TDT:=fun δ R=>t δ fun b δ1=>if b=true then u δ1 R else R false δ1
def dOr (t u:TDT):TDT:=fun δ R=>t δ fun b δ1=>if b=true then R true δ1 else u δ1 R
def dNot (t:TDT):TDT:=fun δ R=>t δ fun b δ1=>R (!b) δ1
def zr (t u:TDE):TDE:=fun δ R=>t δ (wd fun x δ1=>∃ b,x=.bl b∧if b=true then u δ1 R else R (.d (.bl false)) δ1)
def dOrV (t u:TDE):TDE:=fun δ R=>t δ (wd fun x δ1=>∃ b,x=.bl b∧if b=true then R (.d (.bl true)) δ1 else u δ1 R)
def yY (t:TDE):TDE:=fun δ R=>t δ (wd fun x δ1=>∃ b,x=.bl b∧R (.d (.bl (!b))) δ1)
def dIfE (c:TDT) (t u:TDE):TDE:=fun δ R=>c δ fun b δ1=>if b=true then t δ1 R else u δ1 R
section
variable {X:Cx} {pos:Pos} {a b c:Expr} {ta tb:TDE} {t:TDA} {f:List D→(D→Prop)→Prop} {es:List Expr}
theorem de_v (i:Nat) {x:Str} (hN:X.N[i]?=some x:=by rfl) (hv:Vis X.env.scope x:=by walk_at "v3") (hd:(x == ("__debug__":Str))=false:=by decide)
  (hcd:(x == ("__classdict__":Str))=false:=by decide):DE X (.Name x pos) (dV i):=PE.imp (cE hN hv hd hcd) fun σ H Q ⟨G,δ,P,R,s,⟨d,e,r⟩,k,_⟩=>by
 obtain ⟨v,q,s'⟩:=s.dat e
 exact⟨v,q,k d δ r v H s'⟩
theorem de_c {v:V} {d:D} (h:PE X a (tC v)) (hs:sc d=some v):DE X a (dC d):=PE.imp h fun σ H Q ⟨G,δ,P,R,s,r,k,_⟩=>k d δ r v H (s.sc hs)
theorem ae {i j pos}:DE X (.Constant (.int i) j pos) (dC (.int i)):=de_c u6 rfl
theorem eg {i j pos}:DE X (.Constant (.bool i) j pos) (dC (.bl i)):=de_c Be rfl
theorem iS {j pos}:DE X (.Constant .none j pos) (dC .non):=de_c zR rfl
theorem bm {x j pos}:DE X (.Constant (.str x) j pos) (dC (.str x)):=de_c zv rfl
theorem aC {op:Operator} (ho:OpR X (binaryOp op) fun x y=>aS X.K f [x,y]) (ha:DE X a ta) (hb:DE X b tb):DE X (.BinOp a op b pos) (dOp f ta tb) :=
 PE.imp (AC ho ha hb) fun σ H Q ⟨G,δ,P,R,s,h,k,_⟩=>up.mk s h fun x δ1 h1 v H1 s1=>up.mk s1 h1 fun y δ2 h2 u H2 s2 =>
  S.pure (P':=P) (ds:=[x,y]) (vs:=[v,u]) s2 rfl (by simp) (fun p hp=>by simp [hp]) h2 fun d r v' H' s'=>k d δ2 r v' H' s'
theorem bT {op:CmpOp} (ho:OpR X (compareOp op) fun x y=>aS X.K f [x,y]) (ha:DE X a ta) (hb:DE X b tb) (hm:behindInMarks op b=false):DE X (.Compare a [op] [b] pos) (dOp f ta tb) :=
 PE.imp (wa ho ha hb hm) fun σ H Q ⟨G,δ,P,R,s,h,k,_⟩=>up.mk s h fun x δ1 h1 v H1 s1=>up.mk s1 h1 fun y δ2 h2 u H2 s2 =>
  S.pure (P':=P) (ds:=[x,y]) (vs:=[v,u]) s2 rfl (by simp) (fun p hp=>by simp [hp]) h2 fun d r v' H' s'=>k d δ2 r v' H' s'
theorem aI {op:CmpOp} (ho:OpR X (compareOp op) fun x y=>aS X.K f [x,y]) (ha:DE X a ta) (hb:DE X b tb) (hm:behindInMarks op b=false):DT X (.Compare a [op] [b] pos) (dTst (dOp f ta tb)) :=
 PT.imp (xB ho ha hb hm) fun σ H Q ⟨G,δ,P,R,s,h,k⟩=>up.mk s h fun x δ1 h1 v H1 s1=>up.mk s1 h1 fun y δ2 h2 u H2 s2 =>
  S.pure (P':=P) (ds:=[x,y]) (vs:=[v,u]) s2 rfl (by simp) (fun p hp=>by simp [hp]) h2 fun d r v' H' s'=>by
   obtain ⟨b,e,r⟩:=r
   subst e
   have q:=s'
   obtain ⟨A,q⟩:=q
   have q2:=q.pnd (.bl b,v') (by simp)
   simp only [Rep] at q2
   exact⟨b,q2,k b δ2 r H' (s'.sub fun p hp=>by simp [hp])⟩
theorem xx {op:UnaryOp} (ho:UnR X (unaryOp op) fun x=>aS X.K f [x]) (ha:DE X a ta):DE X (.UnaryOp op a pos) (dUn f ta) :=
 PE.imp (Br ho ha) fun σ H Q ⟨G,δ,P,R,s,h,k,_⟩=>up.mk s h fun x δ1 h1 v H1 s1 =>
  S.pure (P':=P) (ds:=[x]) (vs:=[v]) s1 rfl (by simp) (fun p hp=>by simp [hp]) h1 fun d r v' H' s'=>k d δ1 r v' H' s'
theorem cP (h:DE X a ta) (he:∀ whole,isTrue a X.env whole=(do let v←whole;standAt a.pos;holding [v] (truthy v)):=by intro _;rfl):DT X a (dTst ta) :=
 PT.imp (xY h he) fun σ H Q ⟨G,δ,P,R,s,h,k⟩=>up.mk s h fun x δ1 h1 v H1 s1=>by
  obtain ⟨b,e,r⟩:=h1
  subst e
  obtain ⟨A,q⟩:=id s1
  have q2:=q.pnd (.bl b,v) (by simp)
  simp only [Rep] at q2
  exact⟨b,q2,k b δ1 r H1 (s1.sub fun p hp=>by simp [hp])⟩
variable {tA tB':TDT} {rest:List Expr}
theorem DW.dt (h:DW X a tA):DT X a tA:=PW.pt h
theorem jb (ha:DT X a tA):DW X (.BoolOp .And [a] pos) tA:=wK ha
theorem iY (ha:DT X a tA):DW X (.BoolOp .Or [a] pos) tA:=Am ha
theorem kn (ha:DT X a tA) (hb:DW X (.BoolOp .And (b :: rest) pos) tB'):DW X (.BoolOp .And (a :: b :: rest) pos) (dAnd tA tB') :=
 PW.imp (za ha hb) fun σ H Q ⟨G,δ,P,R,s,h,k⟩=>⟨G,δ,P,_,s,h,fun b δ1 h1 H1 s1=>by
  cases b with
  | true=>exact⟨G,δ1,P,R,s1,h1,k⟩
  | false=>exact k false δ1 h1 H1 s1⟩
theorem i7 (ha:DT X a tA) (hb:DW X (.BoolOp .Or (b :: rest) pos) tB'):DW X (.BoolOp .Or (a :: b :: rest) pos) (dOr tA tB') :=
 PW.imp (AG ha hb) fun σ H Q ⟨G,δ,P,R,s,h,k⟩=>⟨G,δ,P,_,s,h,fun b δ1 h1 H1 s1=>by
  cases b with
  | true=>exact k true δ1 h1 H1 s1
  | false=>exact⟨G,δ1,P,R,s1,h1,k⟩⟩
theorem dM (ha:DT X a tA):DT X (.UnaryOp .Not a pos) (dNot tA) :=
 PT.imp (ym ha) fun σ H Q ⟨G,δ,P,R,s,h,k⟩=>⟨G,δ,P,_,s,h,fun b δ1 h1 H1 s1=>k _ δ1 h1 H1 s1⟩
theorem rZ {K:PySem.W.Frag} {G:Gf} {δ:En} {P:List (D×V)} {σ:L2.St} {H:Hp} {b:Bool} {v:V} (s:S K G δ ((.bl b,v) :: P) σ H):v=.bl b:=by
 obtain ⟨A,q⟩:=s
 have q2:=q.pnd (.bl b,v) (by simp)
 simpa only [Rep] using q2
theorem dw {op} (h:DE X a ta):DE X (.BoolOp op [a] pos) ta:=yQ h
theorem io (ha:DE X a ta) (hb:DE X (.BoolOp .And (b :: rest) pos) tb):DE X (.BoolOp .And (a :: b :: rest) pos) (zr ta tb) :=
 PE.imp (yh ha hb) fun σ H Q ⟨G,δ,P,R,s,h,k,k2⟩=>up.mk s h fun x δ1 h1 v H1 s1=>by
  obtain ⟨b,e,r⟩:=h1
  subst e
  refine⟨b,rZ s1,?_⟩
  cases b with
  | true=>exact⟨G,δ1,P,R,s1.sub fun p hp=>by simp [hp],r,k,k2⟩
  | false=>exact k (.bl false) δ1 r _ H1 (by rw [← rZ s1];exact s1)
theorem rT (ha:DE X a ta) (hb:DE X (.BoolOp .Or (b :: rest) pos) tb):DE X (.BoolOp .Or (a :: b :: rest) pos) (dOrV ta tb) :=
 PE.imp (Bm ha hb) fun σ H Q ⟨G,δ,P,R,s,h,k,k2⟩=>up.mk s h fun x δ1 h1 v H1 s1=>by
  obtain ⟨b,e,r⟩:=h1
  subst e
  refine⟨b,rZ s1,?_⟩
  cases b with
  | false=>exact⟨G,δ1,P,R,s1.sub fun p hp=>by simp [hp],r,k,k2⟩
  | true=>exact k (.bl true) δ1 r _ H1 (by rw [← rZ s1];exact s1)
theorem uJ (ha:DE X a ta):DE X (.UnaryOp .Not a pos) (yY ta) :=
 PE.imp (yL ha) fun σ H Q ⟨G,δ,P,R,s,h,k,k2⟩=>up.mk s h fun x δ1 h1 v H1 s1=>by
  obtain ⟨b,e,r⟩:=h1
  subst e
  exact⟨b,rZ s1,k _ δ1 r _ H1 ((s1.sub fun p hp=>by simp [hp]).sc rfl)⟩
theorem yr (hc:DT X c tA) (ha:DE X a ta) (hb:DE X b tb):DE X (.IfExp c a b pos) (dIfE tA ta tb) :=
 PE.imp (sM hc ha hb) fun σ H Q ⟨G,δ,P,R,s,h,k,k2⟩=>⟨G,δ,P,_,s,h,fun b δ1 h1 H1 s1=>by
  cases b with
  | true=>exact⟨G,δ1,P,R,s1,h1,k,k2⟩
  | false=>exact⟨G,δ1,P,R,s1,h1,k,k2⟩⟩
theorem ag:DA X [] yI:=PA.imp dy fun σ H Q ⟨G,δ,P,R,s,h,k⟩=>k [] δ h [] H rfl s
theorem ac (ha:DE X a ta) (hr:DA X es t) (hs:starEach (a :: es) X.env=(false,eval a X.env) :: starEach es X.env:=by rfl):DA X (a :: es) (vc ta t) :=
 PA.imp (ba ha hr hs) fun σ H Q ⟨G,δ,P,R,s,h,k⟩=>up.mk s h fun x δ1 h1 v H1 s1=>⟨G,δ1,(x,v) :: P,_,s1,h1,fun ds δ2 h2 vs H2 hl s2 =>
  k (x :: ds) δ2 h2 (v :: vs) H2 (by simp [hl]) (s2.sub fun p hp=>by
   simp only [List.zip_cons_cons,List.cons_append,List.mem_cons,List.mem_append] at hp ⊢
   rcases hp with h | h | h
   ·exact .inr (.inl h)
   ·exact .inl h
   ·exact .inr (.inr h))⟩
theorem aD {H:Hp} {p:Addr} (h:H p=none) (o:HO):Same H (upd H p o):=fun b u q=>by rw [aE (cy q h)];exact q
theorem gU {n:Nat} (h:n≤9000):n < sizeLine:=Nat.lt_of_le_of_lt h (by decide)
theorem ej {n:Nat} (h:n≤9000):n≤sizeLine:=Nat.le_of_lt (gU h)
theorem bN {x1} (h:DA X es t):DE X (.Tuple es x1 pos) (dTup t) :=
 PE.imp (zV h) fun σ H Q ⟨G,δ,P,R,s,h,k,_⟩=>⟨G,δ,P,_,s,h,fun ds δ1 ⟨hz,h1⟩ vs H1 hl s1=>⟨by rw [← hl];exact ej hz,fun p hp=>by
  obtain ⟨A,x⟩:=s1
  have r:=x.reps ds vs hl (fun q hq=>List.mem_append_left _ hq)
  have x2:=x.same (aD hp (.tup vs))
  refine k (.tup ds) δ1 h1 (.ref p) _ ⟨A,(x2.sub fun q hq=>List.mem_append_right _ hq).push ?_⟩
  unfold Rep
  exact⟨p,vs,rfl,SqT.of aq,Reps.kp (Kp.of_same (aD hp _)) _ _ r⟩⟩⟩
theorem uX (h:DA X es t):DE X (.List es pos) (dLst t) :=
 PE.imp (pE h) fun σ H Q ⟨G,δ,P,R,s,h,k,_⟩=>⟨G,δ,P,_,s,h,fun ds δ1 ⟨hz,h1⟩ vs H1 hl s1=>⟨by rw [← hl];exact ej hz,fun p hp=>by
  obtain ⟨A,x⟩:=s1
  have r:=x.reps ds vs hl (fun q hq=>List.mem_append_left _ hq)
  have x2:=x.same (aD hp (.lst vs))
  refine k (.lst ds) δ1 h1 (.ref p) _ ⟨A,(x2.sub fun q hq=>List.mem_append_right _ hq).push ?_⟩
  unfold Rep
  exact⟨p,vs,rfl,fun z=>x.mem p z hp,aq,Reps.kp (Kp.of_same (aD hp _)) _ _ r⟩⟩⟩
theorem aw (hr:IxR X fun x y=>aS X.K f [x,y]) (ha:DE X a ta) (hb:DE X b tb) (hs:l7 b):DE X (.Subscript a b pos) (dOp f ta tb) :=
 PE.imp (Ar hr ha hb hs) fun σ H Q ⟨G,δ,P,R,s,h,k,_⟩=>up.mk s h fun x δ1 h1 v H1 s1=>up.mk s1 h1 fun y δ2 h2 u H2 s2 =>
  S.pure (P':=P) (ds:=[x,y]) (vs:=[v,u]) s2 rfl (by simp) (fun p hp=>by simp [hp]) h2 fun d r v' H' s'=>k d δ2 r v' H' s'
def spD (K:PySem.W.Frag) (f:List D→(D→Prop)→Prop):Sp:=fun vs H Q _=>aS K f vs H Q
theorem i9 {K:PySem.W.Frag} {σ:L2.St} {H:Hp} {Q:VK} {f:List D→(D→Prop)→Prop} (h:up K (pC f t) σ H Q):upA K t σ H fun vs H1=>aS K f vs H1 Q:=by
 obtain ⟨G,δ,P,R,s,h,k,_⟩:=h
 exact⟨G,δ,P,_,s,h,fun ds δ1 h1 vs H1 hl s1=>S.pure (P':=P) s1 hl (fun p hp=>List.mem_append_left _ hp) (fun p hp=>List.mem_append_right _ hp) h1 fun d r v' H' s'=>k d δ1 r v' H' s'⟩
theorem wf {x:Str} {k:Nat} {g:Addr} {fd:FuncData} {ps:List Str} {p:Pos} (F:FnOk X.prog X.w X.K X.mg X.base CX0 k g fd ps (spD X.K f)) (hr:Room k X.A) (hg:Gl X x) (hm:X.mg x=some (.ref g)) (hk:PySem.W.keepIn X.K (.ref g)=true)
  (hb:jW X.K fd ps []) (ha:DA X (a :: es) t) (hdb:(x == ("__debug__":Str))=false:=by decide) (he:starEach (a :: es) X.env=(false,eval a X.env) :: starEach es X.env:=by rfl) (hpl:(backTo pos (starEach es X.env)).any (·.1)=false:=by rfl) :
  DE X (.Call (.Name x p) (a :: es) [] pos) (pC f t) :=
 PE.imp (jg F hr hg hm hk hb .nil tR ha hdb he hpl) fun σ H Q h=>by
  show upA X.K t σ H fun vs H1=>aS X.K f (vs++[]) H1 Q
  have q:=i9 h
  simpa only [List.append_nil] using q
theorem aM {x:Str} {id:String} {p:Pos} (hc:cc X (.builtin id) (aS X.K f)) (hg:Gl X x) (hm:X.mg x=none) (hv:bootBuiltins x=some (.builtin id)) (ha:DA X (a :: es) t) (hn:x≠"__name__":=by decide) (hdb:(x == ("__debug__":Str))=false:=by decide)
  (he:starEach (a :: es) X.env=(false,eval a X.env) :: starEach es X.env:=by rfl) (hpl:(backTo pos (starEach es X.env)).any (·.1)=false:=by rfl):DE X (.Call (.Name x p) (a :: es) [] pos) (pC f t) :=
 PE.imp (jq hc hg hm hv ha hn hdb he hpl) fun σ H Q h=>i9 h
theorem dH {x:Str} {T:String} {p:Pos} (hc:cc X (.type T) (aS X.K f)) (hg:Gl X x) (hm:X.mg x=none) (hv:bootBuiltins x=some (.type T)) (ha:DA X (a :: es) t) (hn:x≠"__name__":=by decide) (hdb:(x == ("__debug__":Str))=false:=by decide)
  (he:starEach (a :: es) X.env=(false,eval a X.env) :: starEach es X.env:=by rfl) (hpl:(backTo pos (starEach es X.env)).any (·.1)=false:=by rfl):DE X (.Call (.Name x p) (a :: es) [] pos) (pC f t) :=
 PE.imp (e7 hc hg hm hv ha hn hdb he hpl) fun σ H Q h=>i9 h
end
def yM:TDS:=fun R δ=>R.nx δ
def dSeq (t u:TDS):TDS:=fun R δ=>t { R with nx:=u R } δ
def Aw (t:TDE):TDS:=fun R δ=>t δ fun _ δ1=>R.nx δ1
def dRet (t:TDE):TDS:=fun R δ=>t δ (wd fun x δ1=>R.rt x δ1)
def dIf (c:TDT) (t u:TDS):TDS:=fun R δ=>c δ fun b δ1=>if b=true then t R δ1 else u R δ1
def rf:TDS:=fun _ _=>False
def dSet (i:Nat) (t:TDE):TDS:=fun R δ=>t δ (wd fun x δ1=>R.nx (δ1.set i (.dat x)))
def dAsg (t:TDE) (g:TDG):TDS:=fun R δ=>t δ (wd fun x δ1=>g x δ1 R.nx)
def dPar (i j:Nat) (t:TDA):TDS:=fun R δ=>t δ fun ds δ1=>∃ x y,ds=[x,y]∧R.nx ((δ1.set i (.dat x)).set j (.dat y))
def iT (i:Nat):TDG:=fun x δ R=>R (δ.set i (.dat x))
def yf:TDGs:=fun ds δ R=>ds=[]∧R δ
def uI (t:TDG) (u:TDGs):TDGs:=fun ds δ R=>∃ x r,ds=x :: r∧t x δ fun δ1=>u r δ1 R
def jP (n:Nat) (t:TDGs):TDG:=fun d δ R=>∃ xs,d=.tup xs∧xs.length=n∧t xs δ R
def Av (c:TDT) (tb:TDS):TDS:=fun R δ=>∃ (I:En→Prop) (μ:En→Nat),I δ∧∀ δ,I δ→c δ fun b δ1 =>
 if b=true then tb { R with nx:=fun δ'=>I δ'∧μ δ' < μ δ,ct:=fun δ'=>I δ'∧μ δ' < μ δ,bk:=R.nx,tp:=False } δ1 else R.nx δ1
def pJ (t:TDE) (g:TDG) (tb:TDS):TDS:=fun R δ=>t δ (wd fun d δ1=>∃ xs,d=.lst xs∧∃ I:Nat→En→Prop,I 0 δ1 ∧
 (∀ i x δ',xs[i]?=some x→I i δ'→g x δ' fun δ2=>tb { R with nx:=I (i + 1),ct:=I (i + 1),bk:=R.nx,tp:=False } δ2)∧∀ δ',I xs.length δ'→R.nx δ')
def ja (t:TDE) (g:TDG) (tb:TDS):TDS:=fun R δ=>t δ (wd fun d δ1=>∃ xs,d=.tup xs∧∃ I:Nat→En→Prop,I 0 δ1 ∧
 (∀ i x δ',xs[i]?=some x→I i δ'→g x δ' fun δ2=>tb { R with nx:=I (i + 1),ct:=I (i + 1),bk:=R.nx,tp:=False } δ2)∧∀ δ',I xs.length δ'→R.nx δ')
def vE (t:TDA) (g:TDG) (tb:TDS):TDS:=fun R δ=>t δ fun ds δ1=>∃ j:Int,ds=[.int j]∧-(2 ^ 62)≤j∧j < 2 ^ 62∧∃ I:Nat→En→Prop,I 0 δ1 ∧
 (∀ i δ',i < j.toNat→I i δ'→g (.int i) δ' fun δ2=>tb { R with nx:=I (i + 1),ct:=I (i + 1),bk:=R.nx,tp:=False } δ2)∧∀ δ',I j.toNat δ'→R.nx δ'
section
variable {X:Cx} {pos:Pos} {a b c e tg:Expr} {ta:TDE} {tA:TDT} {t u:TDS} {st:Stmt} {rest body:List Stmt} {g:TDG} {gs:TDGs} {tda:TDA}
theorem aH:DSs X [] yM:=PSs.imp v9 fun E σ H ⟨G,δ,P,R,s,h,k,_⟩=>k δ h σ H s
theorem ad (h1:DS X st t) (h2:DSs X rest u):DSs X (st :: rest) (dSeq t u) :=
 PSs.imp (uv h1 h2) fun E σ H ⟨G,δ,P,R,s,h,k1,k2,k3,k4⟩=>⟨G,δ,P,{ R with nx:=u R },s,h,fun δ' h' σ' H' s'=>⟨G,δ',P,R,s',h',k1,k2,k3,k4⟩,k2,k3,k4⟩
theorem af (h1:DS X st t):DSs X [st] t:=v7 h1
theorem pH (he:DE X e ta) (hs:swapsWith e none pos.line X.env=pure false:=by rfl):DS X (.Expr e pos) (Aw ta) :=
 PS.imp (jt he hs) fun E σ H ⟨G,δ,P,R,s,h,k,_⟩=>⟨G,δ,P,_,s,h,fun x δ1 h1 v H1 s1=>k δ1 h1 σ H1 (s1.sub fun p hp=>by simp [hp]),fun i δ1 h1 a d H1 s1 _=>k δ1 h1 σ H1 s1⟩
theorem ay (he:DE X e ta):DS X (.Return (some e) pos) (dRet ta) :=
 PS.imp (qE he) fun E σ H ⟨G,δ,P,R,s,h,_,k,_⟩=>up.mk s h fun x δ1 h1 v H1 s1=>k.1 x δ1 h1 v σ H1 s1
theorem a7 {aa bb:List Stmt} (hc:DT X c tA) (ha:DSs X aa t) (hb:DSs X bb u):DS X (.If c aa bb pos) (dIf tA t u) :=
 PS.imp (Bg hc ha hb) fun E σ H ⟨G,δ,P,R,s,h,k1,k2,k3,k4⟩=>⟨G,δ,P,_,s,h,fun b δ1 h1 H1 s1=>by
  cases b with
  | true=>exact⟨G,δ1,P,R,s1,h1,k1,k2,k3,k4⟩
  | false=>exact⟨G,δ1,P,R,s1,h1,k1,k2,k3,k4⟩⟩
theorem ds_never:DS X st rf:=PS.imp t4 fun E σ H ⟨G,δ,P,R,s,h,_⟩=>h
theorem km:DSs X rest rf:=PSs.imp qo fun E σ H ⟨G,δ,P,R,s,h,_⟩=>h
theorem aB (i:Nat) {x:Str} {pos':Pos} (hN:X.N.Nodup) (he:DE X e ta) (hi:X.N[i]?=some x:=by rfl) (hx:Loc X.env.scope x:=by walk_at "v2") (hs:swapsWith e (some (.Name x pos')) pos.line X.env=pure false:=by rfl)
  (hf:X.fn x=true∨X.env.scope.names.lookup x=some .local :=by walk_at "v1"):DS X (.Assign [.Name x pos'] e pos) (dSet i ta) :=
 PS.imp (iM hN hi hx he hs hf) fun E σ H ⟨G,δ,P,R,s,h,k,_⟩=>up.mk s h fun x δ1 h1 v H1 s1=>k _ h1 _ H1 (s1.set (by simp) fun p hp=>by simp [hp])
theorem zN (he:DE X e ta) (hg:DG X tg g) (hs:swapsWithSole [tg] e pos.line X.env=pure false:=by rfl) (hw:swappedStores [tg] e X.env=pure none:=by rfl)
  (h1:(assignEach [tg] X.env).map (·.2)=[assign tg X.env]:=by rfl):DS X (.Assign [tg] e pos) (dAsg ta g) :=
 PS.imp (uL he hg hs hw h1) fun E σ H ⟨G,δ,P,R,s,h,k,_⟩=>up.mk s h fun x δ1 h1 v H1 s1=>⟨G,δ1,P,x,R.nx,s1,h1,k⟩
theorem am (i:Nat) {x:Str} (hN:X.N.Nodup) (hi:X.N[i]?=some x:=by rfl) (hx:Loc X.env.scope x:=by walk_at "v2") (hf:X.fn x=true∨X.env.scope.names.lookup x=some .local :=by walk_at "v1") :
  DG X (.Name x pos) (iT i):=PG.imp (xA hN hi hx hf) fun v σ H Q ⟨G,δ,P,d,R,s,h,k⟩=>k _ h _ H (s.set (by simp) fun p hp=>by simp [hp])
theorem bn:DGs X [] yf:=PGs.imp xz fun vs σ H Q ⟨G,δ,P,ds,R,hl,s,⟨e,h⟩,k⟩=>by
 subst e
 have:vs=[]:=List.length_eq_zero_iff.mp hl.symm
 subst this
 exact⟨rfl,k δ h σ H s⟩
theorem aF {es:List Expr} (h1:DG X e g) (h2:DGs X es gs) (hs:(assignEach (e :: es) X.env).map (·.2)=assign e X.env :: (assignEach es X.env).map (·.2):=by rfl):DGs X (e :: es) (uI g gs) :=
 PGs.imp (sV h1 h2 hs) fun vs σ H Q ⟨G,δ,P,ds,R,hl,s,⟨x,r,e,h⟩,k⟩=>by
  subst e
  cases vs with
  | nil=>cases hl
  | cons v vs =>
   refine⟨v,vs,rfl,G,δ,r.zip vs++P,x,_,s.sub fun p hp=>by simpa using hp,h,fun δ1 h1 σ1 H1 s1=>⟨G,δ1,P,r,R,Nat.succ.inj hl,s1,h1,k⟩⟩
theorem b7 {es:List Expr} {kk n:Nat} (hc:X.calm=true) (h:DGs X es gs) (hn:(assignEach es X.env).length=n:=by rfl) (hst:(assignEach es X.env).findIdx? (·.1)=none:=by rfl):DG X (.Tuple es kk pos) (jP n gs) :=
 PG.imp (Ap hc h hn hst) fun v σ H Q ⟨G,δ,P,d,R,s,⟨xs,e,hl,h⟩,k⟩=>by
  subst e
  obtain ⟨A,x⟩:=s
  have q:=x.pnd (.tup xs,v) (by simp)
  simp only [Rep] at q
  obtain ⟨a,vs,e,sq,r⟩:=q
  subst e
  refine⟨a,vs,rfl,sq,by rw [← Reps.length _ _ r];exact hl,G,δ,P,xs,R,Reps.length _ _ r,⟨A,?_⟩,h,k⟩
  exact⟨x.old,x.stay,x.m0,x.pm,x.new,x.thr,x.len,x.dat,x.own,x.inj,fun p hp=>by
   rcases List.mem_append.mp hp with hp | hp
   ·obtain ⟨i,hi,e⟩:=List.mem_iff_getElem.mp hp
    have h1:i < xs.length:=by rw [List.length_zip] at hi;omega
    have h2:i < vs.length:=by rw [List.length_zip] at hi;omega
    obtain ⟨v',e',r'⟩:=Reps.get _ _ r i xs[i] (by simp [h1])
    have:p=(xs[i],vs[i]):=by rw [← e,List.getElem_zip]
    rw [this]
    rw [List.getElem?_eq_getElem h2] at e'
    cases e'
    exact r'
   ·exact x.pnd p (by simp [hp])⟩
theorem yc (i j:Nat) {x y:Str} {px py pt pt2:Pos} {kt k2} (hc:X.calm=true) (hN:X.N.Nodup) (hij:i≠j) (ha:DA X [a,b] tda) (hi:X.N[i]?=some x:=by rfl) (hj:X.N[j]?=some y:=by rfl)
  (hx:X.env.scope.names.lookup x=some .local :=by rfl) (hy:X.env.scope.names.lookup y=some .local :=by rfl) (hw:swappedStores [.Tuple [.Name x px,.Name y py] kt pt] (.Tuple [a,b] k2 pt2) X.env=pure (some [x,y]):=by rfl)
  (hs:swapsWithSole [.Tuple [.Name x px,.Name y py] kt pt] (.Tuple [a,b] k2 pt2) pos.line X.env=pure false:=by rfl) :
  DS X (.Assign [.Tuple [.Name x px,.Name y py] kt pt] (.Tuple [a,b] k2 pt2) pos) (dPar i j tda) :=
 PS.imp (xZ hc hN hi hj hij hx hy ha hw hs) fun E σ H ⟨G,δ,P,R,s,h,k,_⟩=>⟨G,δ,P,_,s,h,fun ds δ1 ⟨x,y,e,h1⟩ vs H1 hl s1=>by
  subst e
  match vs,hl with
  | [v,w],_=>exact⟨v,w,rfl,k _ h1 _ H1 ((s1.set (P':=(x,v) :: (y,w) :: P) (i:=i) (d:=x) (v:=v) (by simp) fun p hp=>by simpa using hp).set (by simp) fun p hp=>by simp [hp])⟩⟩
theorem mQ (hp:PassesOwn (model X.prog X.w) X.A X.env X.xe) (hc:DT X c tA) (hb:DSs X body t):DS X (.While c body [] pos) (Av tA t) :=
 PS.imp (s0 hp hc hb) fun E σ H ⟨G,δ,P,R,s,⟨I,μ,i0,turn⟩,k1,k2,k3,k4⟩=>by
  refine⟨fun m σ H=>∃ δ,m=μ δ∧I δ∧S X.K G δ P σ H,⟨_,δ,rfl,i0,s⟩,?_⟩
  rintro m σ H ⟨δ,rfl,i,s⟩
  refine⟨G,δ,P,_,s,turn δ i,fun b δ1 h1 H1 s1=>?_⟩
  cases b with
  | false=>exact k1 δ1 h1 σ H1 s1
  | true =>
   refine⟨fun σ' H'=>∃ δ',(I δ'∧μ δ' < μ δ)∧S X.K G δ' P σ' H',fun σ' H' ⟨δ',⟨i',l⟩,s'⟩=>⟨_,l,δ',rfl,i',s'⟩,?_⟩
   exact⟨G,δ1,P,_,s1,h1,fun δ' h' σ' H' s'=>⟨δ',h',s'⟩,k2,k1,fun δ' h' σ' H' s'=>⟨δ',h',s'⟩,fun z=>z.elim⟩
theorem cU (hp:PassesOwn (model X.prog X.w) X.A X.env X.xe) (hc:X.calm=true) (hi:DE X e ta) (hg:DG X tg g) (hb:DSs X body t) (hs:∀ x,foldedSetIterable e X.env x=pure x:=by intro _;rfl):DS X (.For tg e body [] pos) (pJ ta g t) :=
 PS.imp (mL hp hc (qO hi) hg hb hs) fun E σ H ⟨G,δ,P,R,s,h,k1,k2,k3,k4⟩=>up.mk s h fun d δ1 h1 v H1 s1=>by
  obtain ⟨xs,e,I,i0,turn,fin⟩:=h1
  subst e
  have hat:∀ δ σ H,S X.K G δ ((.lst xs,v) :: P) σ H→∃ a vs,v=.ref a∧SqL X.K H a vs∧vs.length=xs.length:=fun δ σ H ⟨A,x⟩=>by
   have q:=x.pnd (.lst xs,v) (by simp)
   simp only [Rep] at q
   obtain ⟨a,vs,e,_,l,r⟩:=q
   exact⟨a,vs,e,SqL.of l,(Reps.length _ _ r).symm⟩
  have hev:∃ a vs,v=.ref a∧SqL X.K H1 a vs∧vs.length=xs.length:=hat _ _ _ s1
  obtain ⟨a,vs0,rfl,hsq,hl0⟩:=hev
  refine⟨a,rfl,⟨vs0,hsq⟩,fun i m σ H=>m=xs.length - i∧i≤xs.length∧∃ δ,I i δ∧S X.K G δ ((.lst xs,.ref a) :: P) σ H,⟨xs.length,by simp,Nat.zero_le _,δ1,i0,s1⟩,?_⟩
  rintro i m σ H ⟨rfl,hi,δ',ii,s'⟩
  obtain ⟨A,x⟩:=id s'
  have q:=x.pnd (.lst xs,.ref a) (by simp)
  simp only [Rep] at q
  obtain ⟨a',vs,e,_,l,r⟩:=q
  cases e
  have l:SqL X.K H a vs:=SqL.of l
  have hl:xs.length=vs.length:=Reps.length _ _ r
  by_cases hlt:i < xs.length
  ·obtain ⟨v',e',r'⟩:=Reps.get _ _ r i xs[i] (by simp [hlt])
   refine .inr ⟨⟨vs,v',l,e'⟩,fun σ' H'=>∃ δ',I (i + 1) δ'∧S X.K G δ' ((.lst xs,.ref a) :: P) σ' H',fun σ' H' ⟨δ',p',s'⟩=>⟨xs.length - (i + 1),by omega,rfl,hlt,δ',p',s'⟩,fun y H' hy=>?_⟩
   obtain ⟨e,hy⟩:=hy
   subst e
   have:some y=some v':=(hy vs l).symm.trans e'
   cases this
   refine⟨G,δ',(.lst xs,.ref a) :: P,xs[i],_,⟨A,x.push r'⟩,turn i xs[i] δ' (by simp [hlt]) ii,fun δ2 h2 σ2 H2 s2=>?_⟩
   refine⟨G,δ2,(.lst xs,.ref a) :: P,_,s2,h2,fun δ3 h3 σ3 H3 s3=>⟨δ3,h3,s3⟩,⟨fun d δ3 h3 v3 σ3 H3 s3=>k2.1 d δ3 h3 v3 σ3 H3 (s3.sub fun p hp=>by
    rcases List.mem_cons.mp hp with rfl | hp
    ·simp
    ·simp [hp]),k2.2⟩,fun δ3 h3 σ3 H3 s3=>k1 δ3 h3 σ3 H3 (s3.sub fun p hp=>by simp [hp]),fun δ3 h3 σ3 H3 s3=>⟨δ3,h3,s3⟩,fun z=>z.elim⟩
  ·have e:i=xs.length:=by omega
   subst e
   exact .inl ⟨⟨vs,l,by omega⟩,k1 δ' (fin δ' ii) σ H (s'.sub fun p hp=>by simp [hp])⟩
theorem dZ (hp:PassesOwn (model X.prog X.w) X.A X.env X.xe) (hc:X.calm=true) (hi:DE X e ta) (hg:DG X tg g) (hb:DSs X body t) (hs:∀ x,foldedSetIterable e X.env x=pure x:=by intro _;rfl):DS X (.For tg e body [] pos) (ja ta g t) :=
 PS.imp (mL hp hc (vm hi) hg hb hs) fun E σ H ⟨G,δ,P,R,s,h,k1,k2,k3,k4⟩=>up.mk s h fun d δ1 h1 v H1 s1=>by
  obtain ⟨xs,e,I,i0,turn,fin⟩:=h1
  subst e
  have hat:∀ δ σ H,S X.K G δ ((.tup xs,v) :: P) σ H→∃ a vs,v=.ref a∧SqT X.K H a vs∧vs.length=xs.length:=fun δ σ H ⟨A,x⟩=>by
   have q:=x.pnd (.tup xs,v) (by simp)
   simp only [Rep] at q
   obtain ⟨a,vs,e,l,r⟩:=q
   exact⟨a,vs,e,l,(Reps.length _ _ r).symm⟩
  have hev:∃ a vs,v=.ref a∧SqT X.K H1 a vs∧vs.length=xs.length:=hat _ _ _ s1
  obtain ⟨a,vs0,rfl,hsq,hl0⟩:=hev
  refine⟨a,rfl,⟨vs0,hsq⟩,fun i m σ H=>m=xs.length - i∧i≤xs.length∧∃ δ,I i δ∧S X.K G δ ((.tup xs,.ref a) :: P) σ H,⟨xs.length,by simp,Nat.zero_le _,δ1,i0,s1⟩,?_⟩
  rintro i m σ H ⟨rfl,hi,δ',ii,s'⟩
  obtain ⟨A,x⟩:=id s'
  have q:=x.pnd (.tup xs,.ref a) (by simp)
  simp only [Rep] at q
  obtain ⟨a',vs,e,l,r⟩:=q
  cases e
  have hl:xs.length=vs.length:=Reps.length _ _ r
  by_cases hlt:i < xs.length
  ·obtain ⟨v',e',r'⟩:=Reps.get _ _ r i xs[i] (by simp [hlt])
   refine .inr ⟨⟨vs,v',l,e'⟩,fun σ' H'=>∃ δ',I (i + 1) δ'∧S X.K G δ' ((.tup xs,.ref a) :: P) σ' H',fun σ' H' ⟨δ',p',s'⟩=>⟨xs.length - (i + 1),by omega,rfl,hlt,δ',p',s'⟩,fun y H' hy=>?_⟩
   obtain ⟨e,hy⟩:=hy
   subst e
   have:some y=some v':=(hy vs l).symm.trans e'
   cases this
   refine⟨G,δ',(.tup xs,.ref a) :: P,xs[i],_,⟨A,x.push r'⟩,turn i xs[i] δ' (by simp [hlt]) ii,fun δ2 h2 σ2 H2 s2=>?_⟩
   refine⟨G,δ2,(.tup xs,.ref a) :: P,_,s2,h2,fun δ3 h3 σ3 H3 s3=>⟨δ3,h3,s3⟩,⟨fun d δ3 h3 v3 σ3 H3 s3=>k2.1 d δ3 h3 v3 σ3 H3 (s3.sub fun p hp=>by
    rcases List.mem_cons.mp hp with rfl | hp
    ·simp
    ·simp [hp]),k2.2⟩,fun δ3 h3 σ3 H3 s3=>k1 δ3 h3 σ3 H3 (s3.sub fun p hp=>by simp [hp]),fun δ3 h3 σ3 H3 s3=>⟨δ3,h3,s3⟩,fun z=>z.elim⟩
  ·have e:i=xs.length:=by omega
   subst e
   exact .inl ⟨⟨vs,l,by omega⟩,k1 δ' (fin δ' ii) σ H (s'.sub fun p hp=>by simp [hp])⟩
theorem l9 {p pos':Pos} (hp:PassesOwn (model X.prog X.w) X.A X.env X.xe) (hc:X.calm=true) (hgl:Gl X "range") (hm:X.mg "range"=none) (ha:DA X [a] tda) (hg:DG X tg g) (hb:DSs X body t)
  (hse:starEach [a] X.env=[(false,eval a X.env)]:=by rfl) (hs:∀ x,foldedSetIterable (.Call (.Name "range" p) [a] [] pos') X.env x=pure x:=by intro _;rfl) :
  DS X (.For tg (.Call (.Name "range" p) [a] [] pos') body [] pos) (vE tda g t) :=
 PS.imp (mL hp hc (kO hgl hm ha hse) hg hb hs) fun E σ H ⟨G,δ,P,R,s,h,k1,k2,k3,k4⟩=>⟨G,δ,P,_,s,h,fun ds δ1 h1 vs H1 hl s1=>by
  obtain ⟨j,e,h1,h2,I,i0,turn,fin⟩:=h1
  subst e
  match vs,hl with
  | [v],_ =>
   have q:v=.int j:=by
    obtain ⟨A,x⟩:=s1
    have q:=x.pnd (.int j,v) (by simp)
    simpa only [Rep] using q
   subst q
   have s2:S X.K G δ1 P σ H1:=s1.sub fun p hp=>by simp [hp]
   refine⟨j,rfl,h1,h2,rW (lo:=0) (n:=j.toNat) (fun i σ H=>∃ δ,I i δ∧S X.K G δ P σ H) ⟨δ1,i0,s2⟩ (fun i σ H hi ⟨δ',ii,s'⟩=>?_) fun σ H ⟨δ',ii,s'⟩=>k1 δ' (fin δ' ii) σ H s'⟩
   refine⟨G,δ',P,.int (0 + i),_,s'.sc rfl,(by have q:=turn i δ' hi ii;rw [Int.zero_add];exact q),fun δ2 h2 σ2 H2 s2=>?_⟩
   exact⟨G,δ2,P,_,s2,h2,fun δ3 h3 σ3 H3 s3=>⟨δ3,h3,s3⟩,k2,k1,fun δ3 h3 σ3 H3 s3=>⟨δ3,h3,s3⟩,fun z=>z.elim⟩⟩
end
end DL
namespace DL
open PySem PySem.Spec PyProof.Rows L2
section
variable {K:PySem.W.Frag} {M:Addr→Prop} {H:Hp}
theorem y8 {a:D} {x:V} (h:Reps K M H [a] [x]):Rep K M H a x:=by
 unfold Reps at h
 obtain ⟨v,r,e,q,_⟩:=h
 cases e
 exact q
theorem b6 {a b:D} {x y:V} (h:Reps K M H [a,b] [x,y]):Rep K M H a x∧Rep K M H b y:=by
 unfold Reps at h
 obtain ⟨v,r,e,q,h⟩:=h
 cases e
 exact⟨q,y8 h⟩
theorem be {a:D} {vs:List V} (h:Reps K M H [a] vs):∃ x,vs=[x]∧Rep K M H a x:=by
 unfold Reps at h
 obtain ⟨v,r,e,q,h⟩:=h
 unfold Reps at h
 subst h
 exact⟨v,e,q⟩
theorem fg {a b:D} {vs:List V} (h:Reps K M H [a,b] vs):∃ x y,vs=[x,y]∧Rep K M H a x∧Rep K M H b y:=by
 unfold Reps at h
 obtain ⟨v,r,e,q,h⟩:=h
 obtain ⟨y,e2,q2⟩:=be h
 subst e2
 exact⟨v,y,e,q,q2⟩
theorem aO {i:Int} {v:V} (h:Rep K M H (.int i) v):v=.int i:=by unfold Rep at h;exact h
theorem gX {i:Bool} {v:V} (h:Rep K M H (.bl i) v):v=.bl i:=by unfold Rep at h;exact h
theorem bu {i:Str} {v:V} (h:Rep K M H (.str i) v):v=.str i:=by unfold Rep at h;exact h
end
def fI0 (g:Int→Int→D):List D→(D→Prop)→Prop:=fun ds R=>∃ i j,ds=[.int i,.int j]∧R (g i j)
def fI (C:Int→Int→Prop) (g:Int→Int→D):List D→(D→Prop)→Prop:=fun ds R=>∃ i j,ds=[.int i,.int j]∧C i j∧R (g i j)
def fU (g:Int→D):List D→(D→Prop)→Prop:=fun ds R=>∃ i,ds=[.int i]∧R (g i)
theorem xW {g:Int→Int→D} {a b:Int} {R:D→Prop}:fI0 g [.int a,.int b] R↔R (g a b):=by
 unfold fI0
 constructor
 ·rintro ⟨i,j,e,r⟩;cases e;exact r
 ·exact fun r=>⟨a,b,rfl,r⟩
theorem A7 {C:Int→Int→Prop} {g:Int→Int→D} {a b:Int} {R:D→Prop}:fI C g [.int a,.int b] R↔C a b∧R (g a b):=by
 unfold fI
 constructor
 ·rintro ⟨i,j,e,r⟩;cases e;exact r
 ·exact fun r=>⟨a,b,rfl,r⟩
theorem Az {g:Int→D} {a:Int} {R:D→Prop}:fU g [.int a] R↔R (g a):=by
 unfold fU
 constructor
 ·rintro ⟨i,e,r⟩;cases e;exact r
 ·exact fun r=>⟨a,rfl,r⟩
def CFd (_ j:Int):Prop:=j≠0∧j.natAbs.log2 < 9000
def CNz (_ j:Int):Prop:=j≠0
section
variable {X:Cx}
theorem opI0 {f:Value→Value→Sem Value} {g':Int→Int→V} {g:Int→Int→D} (h:OpR X f (rI0 g')) (hs:∀ i j,sc (g i j)=some (g' i j)):OpR X f fun x y=>aS X.K (fI0 g) [x,y] :=
 OpR.imp h fun x y H Q ⟨M,ds,R,m,rs,⟨i,j,e,r⟩,k⟩=>by
  subst e
  obtain ⟨h1,h2⟩:=b6 rs
  exact⟨i,j,aO h1,aO h2,k _ r _ H (Same.refl H) (Rep.sc (hs i j))⟩
theorem opI {f:Value→Value→Sem Value} {C C':Int→Int→Prop} {g':Int→Int→V} {g:Int→Int→D} (h:OpR X f (rI C' g')) (hs:∀ i j,sc (g i j)=some (g' i j)) (hc:∀ i j,C i j→C' i j):OpR X f fun x y=>aS X.K (fI C g) [x,y] :=
 OpR.imp h fun x y H Q ⟨M,ds,R,m,rs,⟨i,j,e,c,r⟩,k⟩=>by
  subst e
  obtain ⟨h1,h2⟩:=b6 rs
  exact⟨i,j,aO h1,aO h2,hc i j c,k _ r _ H (Same.refl H) (Rep.sc (hs i j))⟩
theorem A9:OpR X (binaryOp .Add) fun x y=>aS X.K (fI0 fun i j=>.int (i + j)) [x,y]:=opI0 Au fun _ _=>rfl
theorem ku:OpR X (binaryOp .Sub) fun x y=>aS X.K (fI0 fun i j=>.int (i - j)) [x,y]:=opI0 yR fun _ _=>rfl
theorem vJ:OpR X (binaryOp .Mult) (rI IntMulOk fun i j=>.int (i * j)):=L2.opI fun _ _ _ _ _ _ _ hc q=>mul_int q hc
theorem bB:OpR X (binaryOp .Mult) fun x y=>aS X.K (fI IntMulOk fun i j=>.int (i * j)) [x,y]:=opI vJ (fun _ _=>rfl) fun _ _ h=>h
theorem tY:OpR X (binaryOp .FloorDiv) (rI CFd fun i j=>.int (i.fdiv j)):=L2.opI fun _ _ _ _ _ _ _ hc q=>floordiv_int hc.1 q (.inl (PyProof.noPylong_of_log2 hc.2))
theorem dU:OpR X (binaryOp .FloorDiv) fun x y=>aS X.K (fI CFd fun i j=>.int (i.fdiv j)) [x,y]:=opI tY (fun _ _=>rfl) fun _ _ h=>h
theorem eD:OpR X (binaryOp .Mod) fun x y=>aS X.K (fI CNz fun i j=>.int (i.fmod j)) [x,y]:=opI wJ (fun _ _=>rfl) fun _ _ h=>h
theorem yw:OpR X (binaryOp .Pow) fun x y=>aS X.K (fI CPow fun i j=>.int (i ^ j.toNat)) [x,y]:=opI yz (fun _ _=>rfl) fun _ _ h=>h
theorem o_lt:OpR X (compareOp .Lt) fun x y=>aS X.K (fI0 fun i j=>.bl (decide (i < j))) [x,y]:=opI0 Bf fun _ _=>rfl
theorem o_le:OpR X (compareOp .LtE) fun x y=>aS X.K (fI0 fun i j=>.bl (decide (i≤j))) [x,y]:=opI0 Bv fun _ _=>rfl
theorem o_gt:OpR X (compareOp .Gt) fun x y=>aS X.K (fI0 fun i j=>.bl (decide (j < i))) [x,y]:=opI0 A8 fun _ _=>rfl
theorem o_ge:OpR X (compareOp .GtE) fun x y=>aS X.K (fI0 fun i j=>.bl (decide (j≤i))) [x,y]:=opI0 Bq fun _ _=>rfl
theorem xf:UnR X (unaryOp .USub) fun x=>aS X.K (fU fun i=>.int (-i)) [x] :=
 UnR.imp zc fun x H Q ⟨M,ds,R,m,rs,⟨i,e,r⟩,k⟩=>by
  subst e
  exact⟨i,aO (y8 rs),k _ r _ H (Same.refl H) (Rep.sc rfl)⟩
theorem yW:cc X (.builtin "abs") (aS X.K (fU fun i=>.int (if i < 0 then -i else i))) :=
 cc.imp ud fun xs H Q ⟨M,ds,R,m,rs,⟨i,e,r⟩,k⟩=>by
  subst e
  obtain ⟨x,e,q⟩:=be rs
  subst e
  exact⟨i,by rw [aO q],k _ r _ H (Same.refl H) (Rep.sc rfl)⟩
def fLen:List D→(D→Prop)→Prop
 | [.lst xs],R=>R (.int xs.length)
 | [.fz xs],R=>R (.int xs.length)
 | [.tup xs],R=>R (.int xs.length)
 | _,_=>False
theorem wn {d0:List D} {R:D→Prop} (h:fLen d0 R):(∃ (xs:List D),d0=[.lst xs]∧R (.int xs.length))∨(∃ (xs:List D),d0=[.fz xs]∧R (.int xs.length))∨(∃ (xs:List D),d0=[.tup xs]∧R (.int xs.length)):=by
 rcases d0 with _ | ⟨a,_ | ⟨b,l⟩⟩
 ·exact False.elim h
 ·cases a<;>first | exact False.elim h | exact .inl ⟨_,rfl,h⟩ | exact .inr (.inl ⟨_,rfl,h⟩) | exact .inr (.inr ⟨_,rfl,h⟩)
 ·cases a<;>exact False.elim h
theorem iJ:cc X (.builtin "len") (aS X.K fLen) :=
 cc.imp f7 fun xs H Q ⟨M,ds,R,m,rs,h,k⟩=>by
  have fin:∀ n:Nat,R (.int n)→Q (.int n) H:=fun n r=>k _ r _ H (Same.refl H) (Rep.sc rfl)
  replace h:=wn h
  rcases h with ⟨_,rfl,h⟩ | ⟨_,rfl,h⟩ | ⟨_,rfl,h⟩
  ·obtain ⟨x,e,q⟩:=be rs
   unfold Rep at q
   obtain ⟨a,vs,e2,_,l,r⟩:=q
   subst e e2
   exact⟨a,vs,rfl,.inl (SqL.of l),fin _ (by rw [← Reps.length _ _ r];exact h)⟩
  ·obtain ⟨x,e,q⟩:=be rs
   unfold Rep at q
   obtain ⟨a,vs,e2,l,r⟩:=q
   subst e e2
   exact⟨a,vs,rfl,.inl l.seq,fin _ (by rw [← Reps.length _ _ r];exact h)⟩
  ·obtain ⟨x,e,q⟩:=be rs
   unfold Rep at q
   obtain ⟨a,vs,e2,l,r⟩:=q
   subst e e2
   exact⟨a,vs,rfl,.inr l,fin _ (by rw [← Reps.length _ _ r];exact h)⟩
def fInt:List D→(D→Prop)→Prop
 | [.int i],R=>R (.int i)
 | [.bl b],R=>R (.int (if b then 1 else 0))
 | _,_=>False
def fIx:List D→(D→Prop)→Prop
 | [.tup xs,.int i],R=>∃ v,atI xs i=some v∧R v
 | [.lst xs,.int i],R=>∃ v,atI xs i=some v∧R v
 | [.fz xs,.int i],R=>∃ v,atI xs i=some v∧R v
 | [.str z,.int i],R=>z.length≤9000∧∃ c,atI z.cps.toList i=some c∧R (.str ⟨#[c]⟩)
 | _,_=>False
theorem Ac {d0:List D} {R:D→Prop} (h:fIx d0 R):(∃ (xs:List D) (i:Int),d0=[.tup xs,.int i]∧∃ v,atI xs i=some v∧R v)∨(∃ (xs:List D) (i:Int),d0=[.lst xs,.int i]∧∃ v,atI xs i=some v∧R v)∨(∃ (xs:List D) (i:Int),d0=[.fz xs,.int i]∧∃ v,atI xs i=some v∧R v)∨(∃ (z:Str) (i:Int),d0=[.str z,.int i]∧z.length≤9000∧∃ c,atI z.cps.toList i=some c∧R (.str ⟨#[c]⟩)):=by
 rcases d0 with _ | ⟨a,_ | ⟨b,_ | ⟨c,l⟩⟩⟩
 ·exact False.elim h
 ·cases a<;>exact False.elim h
 ·cases a<;>first | exact False.elim h | (cases b<;>first | exact False.elim h | exact .inl ⟨_,_,rfl,h⟩ | exact .inr (.inl ⟨_,_,rfl,h⟩) | exact .inr (.inr (.inl ⟨_,_,rfl,h⟩)) | exact .inr (.inr (.inr ⟨_,_,rfl,h⟩)))
 ·cases a<;>first | exact False.elim h | (cases b<;>exact False.elim h)
theorem qu {α β:Type} {xs:List α} {ys:List β} (h:xs.length=ys.length) {i:Int} {v:α} (e:atI xs i=some v):∃ j:Nat,xs[j]?=some v∧∀ w,ys[j]?=some w→atI ys i=some w:=by
 unfold atI at e ⊢
 rw [h] at e
 cases q:ixN ys.length i with
 | none=>rw [q] at e;cases e
 | some j=>rw [q] at e;exact⟨j,e,fun w z=>z⟩
theorem au:IxR X fun x y=>aS X.K fIx [x,y] :=
 IxR.imp ya fun x y H Q ⟨M,ds,R,m,rs,h,k⟩=>by
  have fin:∀ (xs:List D) (vs:List V) (i:Int) (d:D),Reps X.K M H xs vs→atI xs i=some d→R d→∃ v,atI vs i=some v∧Q v H:=fun xs vs i d r e q=>by
   obtain ⟨j,h1,h2⟩:=qu (Reps.length _ _ r) e
   obtain ⟨v,e',r'⟩:=Reps.get _ _ r j d h1
   exact⟨v,h2 v e',k d q v H (Same.refl H) r'⟩
  replace h:=Ac h
  rcases h with ⟨_,_,rfl,h⟩ | ⟨_,_,rfl,h⟩ | ⟨_,_,rfl,h⟩ | ⟨_,_,rfl,h⟩
  ·obtain ⟨d,e,q⟩:=h
   obtain ⟨h1,h2⟩:=b6 rs
   unfold Rep at h1
   obtain ⟨a,vs,e2,l,r⟩:=h1
   obtain ⟨v,e3,q3⟩:=fin _ _ _ _ r e q
   exact .inr (.inl ⟨a,vs,_,v,e2,aO h2,l,e3,q3⟩)
  ·obtain ⟨d,e,q⟩:=h
   obtain ⟨h1,h2⟩:=b6 rs
   unfold Rep at h1
   obtain ⟨a,vs,e2,_,l,r⟩:=h1
   obtain ⟨v,e3,q3⟩:=fin _ _ _ _ r e q
   exact .inl ⟨a,vs,_,v,e2,aO h2,SqL.of l,e3,q3⟩
  ·obtain ⟨d,e,q⟩:=h
   obtain ⟨h1,h2⟩:=b6 rs
   unfold Rep at h1
   obtain ⟨a,vs,e2,l,r⟩:=h1
   obtain ⟨v,e3,q3⟩:=fin _ _ _ _ r e q
   exact .inl ⟨a,vs,_,v,e2,aO h2,l.seq,e3,q3⟩
  ·obtain ⟨hz,c,e,q⟩:=h
   obtain ⟨h1,h2⟩:=b6 rs
   exact .inr (.inr ⟨_,_,c,bu h1,aO h2,ej hz,e,k _ q _ H (Same.refl H) (Rep.sc rfl)⟩)
def fCat:List D→(D→Prop)→Prop
 | [.lst xs,.lst ys],R=>xs.length + ys.length≤9000∧R (.lst (xs++ys))
 | _,_=>False
theorem wg {d0:List D} {R:D→Prop} (h:fCat d0 R):∃ (xs:List D) (ys:List D),d0=[.lst xs,.lst ys]∧xs.length + ys.length≤9000∧R (.lst (xs++ys)):=by
 rcases d0 with _ | ⟨a,_ | ⟨b,_ | ⟨c,l⟩⟩⟩
 ·exact False.elim h
 ·cases a<;>exact False.elim h
 ·cases a<;>first | exact False.elim h | (cases b<;>first | exact False.elim h | exact⟨_,_,rfl,h⟩)
 ·cases a<;>first | exact False.elim h | (cases b<;>exact False.elim h)
theorem Ay:OpR X (binaryOp .Add) fun x y=>aS X.K fCat [x,y] :=
 OpR.imp Af fun x y H Q ⟨M,ds,R,m,rs,h,k⟩=>by
  replace h:=wg h
  obtain ⟨_,_,rfl,h⟩:=h
  ·obtain ⟨hz,q⟩:=h
   obtain ⟨h1,h2⟩:=b6 rs
   unfold Rep at h1 h2
   obtain ⟨a,vs,e,_,l,r⟩:=h1
   obtain ⟨b,ws,e',_,l',r'⟩:=h2
   refine⟨a,b,vs,ws,e,e',l,l',ej (by rw [← Reps.length _ _ r,← Reps.length _ _ r'];exact hz),fun p hp=>k _ q _ _ (aD hp _) ?_⟩
   unfold Rep
   exact⟨p,vs++ws,rfl,fun z=>m p z hp,aq,Reps.kp (Kp.of_same (aD hp _)) _ _ (Reps.append _ _ _ _ r r')⟩
def cut {α:Type} (xs:List α) (lo hi:Option Int):List α:=(xs.drop (HT.sIx xs.length 0 lo)).take (HT.sIx xs.length xs.length hi - HT.sIx xs.length 0 lo)
abbrev TDO:=En→(Option Int→En→Prop)→Prop
inductive UpO (K:PySem.W.Frag) (t:TDO) (σ:L2.St) (H:Hp) (Q:Option Int→Hp→Prop):Prop
 | mk (G:Gf) (δ:En) (P:List (D×V)) (R:Option Int→En→Prop) (s:S K G δ P σ H) (h:t δ R) (k:∀ o δ',R o δ'→∀ H',S K G δ' P σ H'→Q o H')
def upO (K:PySem.W.Frag) (t:TDO):TO:=UpO K t
def DO (X:Cx) (e:Option Expr) (t:TDO):Prop:=PO X e (upO X.K t)
def p8:TDO:=fun δ R=>R none δ
def zq (t:TDE):TDO:=fun δ R=>t δ (wd fun x δ1=>∃ i,x=.int i∧R (some i) δ1)
theorem PO.imp {e:Option Expr} {t t':TO} (h:PO X e t) (i:∀ σ H Q,t' σ H Q→t σ H Q):PO X e t':=fun pins s σ H Q I q=>h pins s σ H Q I (i σ H Q q)
theorem mF:DO X none p8:=PO.imp wE fun σ H Q ⟨G,δ,P,R,s,h,k⟩=>k none δ h H s
theorem gM {e:Expr} {te:TDE} (h:DE X e te):DO X (some e) (zq te):=PO.imp (xJ h) fun σ H Q ⟨G,δ,P,R,s,h,k⟩=>up.mk s h fun x δ1 h1 v H1 s1=>by
 obtain ⟨i,e,r⟩:=h1
 subst e
 obtain ⟨A,q⟩:=id s1
 exact⟨i,aO (q.pnd (.int i,v) (by simp)),k _ δ1 r H1 (s1.sub fun p hp=>by simp [hp])⟩
def fSl:D→Option Int→Option Int→(D→Prop)→Prop
 | .lst xs,lo,hi,R=>R (.lst (cut xs lo hi))
 | .fz xs,lo,hi,R=>R (.lst (cut xs lo hi))
 | .tup xs,lo,hi,R=>¬ (HT.sIx xs.length 0 lo=0∧HT.sIx xs.length xs.length hi=xs.length)∧R (.tup (cut xs lo hi))
 | _,_,_,_=>False
def dSl (te:TDE) (tl th:TDO):TDE:=fun δ R=>te δ (wd fun x δ1=>tl δ1 fun l δ2=>th δ2 fun u δ3=>fSl x l u fun d=>R (.d d) δ3)
theorem Reps.cut {K:PySem.W.Frag} {M:Addr→Prop} {H:Hp} {ds:List D} {vs:List V} (lo hi:Option Int) (r:Reps K M H ds vs):Reps K M H (DL.cut ds lo hi) (cutV vs lo hi):=by
 unfold DL.cut cutV
 rw [Reps.length _ _ r]
 exact Reps.take _ _ _ (Reps.drop _ _ _ r)
theorem rP {e:Expr} {te:TDE} {lo hi:Option Expr} {tl th:TDO} {p2 pos:Pos} (he:DE X e te) (hl:DO X lo tl) (hu:DO X hi th):DE X (.Subscript e (.Slice lo hi none p2) pos) (dSl te tl th) :=
 PE.imp (m5 (qC.or zD) he hl hu) fun σ H Q ⟨G,δ,P,R,s,h,k,_⟩=>up.mk s h fun x δ1 h1 v H1 s1=>⟨G,δ1,(x,v) :: P,_,s1,h1,fun l δ2 h2 H2 s2=>⟨G,δ2,(x,v) :: P,_,s2,h2,fun u δ3 h3 H3 s3=>by
  obtain ⟨A,q⟩:=id s3
  have r:=q.pnd (x,v) (by simp)
  cases x with
  | lst xs =>
   have h3:R (.d (.lst (cut xs l u))) δ3:=h3
   simp only [Rep] at r
   obtain ⟨a,vs,e,_,sq,r⟩:=r
   refine .inl ⟨a,vs,e,SqL.of sq,fun p hp=>?_⟩
   have x2:=(q.same (aD hp (.lst (cutV vs l u))))
   refine k _ δ3 h3 (.ref p) _ ⟨A,(x2.sub (P':=P) fun p hp=>List.mem_cons_of_mem _ hp).push ?_⟩
   unfold Rep
   exact⟨p,_,rfl,fun z=>q.mem p z hp,aq,Reps.kp (Kp.of_same (aD hp _)) _ _ (Reps.cut l u r)⟩
  | fz xs =>
   have h3:R (.d (.lst (cut xs l u))) δ3:=h3
   simp only [Rep] at r
   obtain ⟨a,vs,e,sq,r⟩:=r
   refine .inl ⟨a,vs,e,sq.seq,fun p hp=>?_⟩
   have x2:=(q.same (aD hp (.lst (cutV vs l u))))
   refine k _ δ3 h3 (.ref p) _ ⟨A,(x2.sub (P':=P) fun p hp=>List.mem_cons_of_mem _ hp).push ?_⟩
   unfold Rep
   exact⟨p,_,rfl,fun z=>q.mem p z hp,aq,Reps.kp (Kp.of_same (aD hp _)) _ _ (Reps.cut l u r)⟩
  | tup xs =>
   have h3:¬ (HT.sIx xs.length 0 l=0∧HT.sIx xs.length xs.length u=xs.length)∧R (.d (.tup (cut xs l u))) δ3:=h3
   simp only [Rep] at r
   obtain ⟨a,vs,e,sq,r⟩:=r
   obtain ⟨nf,h3⟩:=h3
   refine .inr ⟨a,vs,e,sq,by rw [← Reps.length _ _ r];exact nf,fun p hp=>?_⟩
   have x2:=(q.same (aD hp (.tup (cutV vs l u))))
   refine k _ δ3 h3 (.ref p) _ ⟨A,(x2.sub (P':=P) fun p hp=>List.mem_cons_of_mem _ hp).push ?_⟩
   unfold Rep
   exact⟨p,_,rfl,SqT.of aq,Reps.kp (Kp.of_same (aD hp _)) _ _ (Reps.cut l u r)⟩
  | _=>exact (show False from h3).elim⟩⟩
end
end DL
namespace DL
open PySem PySem.Spec PyProof.Rows L2
def eo (N:List Str) (ds:List D):En:=ds.map Sl.dat++List.replicate (N.length - ds.length) Sl.no
theorem kg {K:PySem.W.Frag} {f:List D→(D→Prop)→Prop} {vs:List V} {H:Hp} {Q:VK} {n:Nat} (h:aS K f vs H Q) (len:∀ ds R,f ds R→ds.length=n):vs.length=n:=by
 obtain ⟨M,ds,R,m,rs,hf,k⟩:=h
 rw [← Reps.length _ _ rs]
 exact len ds R hf
theorem pZ {K:PySem.W.Frag} {M:Addr→Prop} {ds:List D} {vs:List V} {H:Hp} (N:List Str) (m:∀ b,M b→H b≠none) (rs:Reps K M H ds vs):S K ⟨M,H,fun _=>False⟩ (eo N ds) [] (L2.start N vs) H:=by
 have hl:=Reps.length _ _ rs
 refine⟨fun _=>False,fun b o e _=>e,fun b e=>e,m,fun b h=>h.elim,fun b h=>h.elim,fun b h=>h.elim,?_,fun i d e=>?_,fun i a d e=>?_,fun i j a d e h1 h2=>?_,fun p hp=>(nomatch hp)⟩
 ·unfold eo L2.start
  rw [List.length_append,List.length_append,List.length_map,List.length_map,List.length_replicate,List.length_replicate,hl]
 ·unfold eo at e
  unfold L2.start
  by_cases hi:i < ds.length
  ·rw [List.getElem?_append_left (by rw [List.length_map];exact hi),List.getElem?_map] at e
   cases hd:ds[i]? with
   | none=>rw [hd] at e;cases e
   | some d' =>
    rw [hd] at e
    cases e
    obtain ⟨v,ev,rv⟩:=Reps.get _ _ rs i d hd
    refine⟨v,?_,Rep.more (fun b z=>.inl (z.elim id fun q=>q.elim)) _ _ rv⟩
    rw [List.getElem?_append_left (by rw [List.length_map];omega),List.getElem?_map,ev]
    rfl
  ·rw [List.getElem?_append_right (by rw [List.length_map];omega),List.getElem?_replicate] at e
   split at e<;>cases e
 all_goals
  unfold eo at *
  exfalso
 ·by_cases hi:i < ds.length
  ·rw [List.getElem?_append_left (by rw [List.length_map];exact hi),List.getElem?_map] at e
   cases hd:ds[i]? with
   | none=>rw [hd] at e;cases e
   | some d'=>rw [hd] at e;cases e
  ·rw [List.getElem?_append_right (by rw [List.length_map];omega),List.getElem?_replicate] at e
   split at e<;>cases e
 ·by_cases hi:i < ds.length
  ·rw [List.getElem?_append_left (by rw [List.length_map];exact hi),List.getElem?_map] at h1
   cases hd:ds[i]? with
   | none=>rw [hd] at h1;cases h1
   | some d'=>rw [hd] at h1;cases h1
  ·rw [List.getElem?_append_right (by rw [List.length_map];omega),List.getElem?_replicate] at h1
   split at h1<;>cases h1
structure Fd (K:PySem.W.Frag) (mg:Str→Option Value) (x:Str) (st:Stmt) (ps:List Str):Prop where
 ex:∃ (a:Addr) (fd:FuncData),Fun K x x st a fd∧jW K fd ps []∧mg x=some (.ref a)
structure Cal (P:Program) (w:World) (K:PySem.W.Frag) (mg:Str→Option Value) (base:Heap) (k:Nat) (x:Str) (ps:List Str) (sp:Sp):Prop where
 ex:∃ (a:Addr) (fd:FuncData),FnOk P w K mg base CX0 k a fd ps sp∧jW K fd ps []∧PySem.W.keepIn K (.ref a)=true∧mg x=some (.ref a)
section
variable {P:Program} {w:World} {K:PySem.W.Frag} {mg:Str→Option Value} {base:Heap}
theorem Cal.mono {j k:Nat} {x:Str} {ps:List Str} {sp:Sp} (C:Cal P w K mg base j x ps sp) (h:j≤k):Cal P w K mg base k x ps sp:=by
 obtain ⟨a,fd,F,b,kp,m⟩:=C.ex
 exact⟨a,fd,F.mono h,b,kp,m⟩
theorem AW {x:Str} {st:Stmt} {N ps:List Str} {k:Nat} {a:Addr} {fd:FuncData} {f:List D→(D→Prop)→Prop} (Fu:Fun K x x st a fd) (Sc:ax N ps (ak st)) (len:∀ ds R,f ds R→ds.length=ps.length)
    (hbody:∀ (cdv:Value) (A:Around) (outer:List Env) (s:Shared) (H:Hp) (E:XK) (ds:List D) (R:D→Prop),Room k (A.deeper (envOfC x (ak st) s.heap.objs.size a cdv))→f ds R →
      ∃ t,DSs (cxOf CX0 P w K mg base N x (ak st) a cdv A outer s H E).nox (a9 st) t∧t { nx:=fun _=>R .non,rt:=fun d _=>R d,ro:=R } (eo N ds)) :
    FnOk P w K mg base CX0 (k + 1) a fd ps (spD K f):=by
  refine Fu.ok Sc (fun vs H Q E h=>kg h len) (fun cdv A outer s H vs Q E hr h=>?_)
  obtain ⟨M,ds,R,hm,rs,hf,hk⟩:=h
  obtain ⟨t,ht,hq⟩:=hbody cdv A outer s H E ds R hr hf
  refine⟨_,ht,⟨M,H,fun _=>False⟩,eo N ds,[],_,pZ N hm rs,hq,fun δ' r σ' H' ⟨A',x⟩=>?_,⟨fun d δ' r v σ' H' ⟨A',x⟩=>?_,fun d r a H' ⟨o1,o2,o3,o4⟩=>hk d r (.ref a) H' (fun b o e=>o1 b o e id) (o4.rep o3 fun b z=>.inl z)⟩,fun _ h=>h.elim,fun _ h=>h.elim,fun z=>z.elim⟩
  · exact hk .non r .non H' (fun b o e=>x.old b o e id) (by unfold Rep;rfl)
  · exact hk d r v H' (fun b o e=>x.old b o e id) (Rep.more (fun b z=>.inl (.inl z)) _ _ (x.pnd (d,v) (by simp)))
theorem fn_D {x:Str} {st:Stmt} {N ps:List Str} {k:Nat} {f:List D→(D→Prop)→Prop} (F:Fd K mg x st ps) (Sc:ax N ps (ak st)) (len:∀ ds R,f ds R→ds.length=ps.length)
    (hbody:∀ (a:Addr) (cdv:Value) (A:Around) (outer:List Env) (s:Shared) (H:Hp) (E:XK) (ds:List D) (R:D→Prop),Room k (A.deeper (envOfC x (ak st) s.heap.objs.size a cdv))→f ds R →
      ∃ t,DSs (cxOf CX0 P w K mg base N x (ak st) a cdv A outer s H E).nox (a9 st) t∧t { nx:=fun _=>R .non,rt:=fun d _=>R d,ro:=R } (eo N ds)) :
    Cal P w K mg base (k + 1) x ps (spD K f):=by
  obtain ⟨a,fd,Fu,b,m⟩:=F.ex
  exact⟨a,fd,AW Fu Sc len (hbody a),b,Fu.kp,m⟩
theorem av {X:Cx} {a:Expr} {es:List Expr} {t:TDA} {f:List D→(D→Prop)→Prop} {x:Str} {k:Nat} {ps:List Str} {p pos:Pos} (C:Cal X.prog X.w X.K X.mg X.base k x ps (spD X.K f)) (hr:Room k X.A) (hg:Gl X x) (ha:DA X (a :: es) t)
  (hdb:(x == ("__debug__":Str))=false:=by decide) (he:starEach (a :: es) X.env=(false,eval a X.env) :: starEach es X.env:=by rfl) (hpl:(backTo pos (starEach es X.env)).any (·.1)=false:=by rfl) :
  DE X (.Call (.Name x p) (a :: es) [] pos) (pC f t):=by
 obtain ⟨g,fd,F,b,kp,m⟩:=C.ex
 exact wf F hr hg m kp b ha hdb he hpl
def xT (K:PySem.W.Frag):Sp:=fun vs H Q _=>∃ (a:Addr) (ns:List Int),vs=[.ref a]∧SqL K H a (ns.map V.int)∧Only H∧ns.length≤63∧(∀ n∈ns,Builtin.Int.intBits n≤1048576)∧∀ H',Q (.bl true) H'
def fLaw:List D→(D→Prop)→Prop:=fun ds R=>∃ ns:List Int,ds=[.fz (ns.map D.int)]∧ns.length≤63∧(∀ n∈ns,Builtin.Int.intBits n≤1048576)∧R (.bl true)
end
end DL
namespace DLH
open PySem PySem.W PySem.Calls PyProof.Rows
theorem gH {ns:List Int} (h:WData.layableAll [.list (ns.map .int)]=true):∀ n∈ns,Builtin.Int.intBits n≤1048576:=fun n hn=>by
 have h1:=layableW_arg h _ (List.mem_singleton.mpr rfl)
 have h2:=layableW_item h1 (.int n) (List.mem_map.mpr ⟨n,hn,rfl⟩)
 have h3:=(layableW_iff.mp h2).2.2
 simpa only [WData.weight,Builtin.Int.intBits] using h3
theorem attach_callB {l:OpenLaw} {n:Nat} {q:Program} {loose:List Str} {XP:(Str→Option Value)→Heap→Prop} {YP:World→Heap→Prop} {d:DefRec}
    (hn:l.most=some n) (hdf:d.params.defaults=[])
    (call:∀ (w:World) (s₀ s₁:Shared) (mg mb:Str→Option Value) (fa:Addr) (o:Obj) (pm cd doc:Value) (a:Addr) (vs:List Value) (ns:List Int),
      Ground q loose [] XP w s₀ mg mb s₁.heap→YP w s₁.heap →
      s₁.heap.get? fa=some o→o.data=.func (docDef d.name d.params d.body d.scope pm cd doc)→s₁.heap.CodeRec cd d.name→mg d.name=some (.ref fa) →
      s₁.heap.get? a=some { cls:=.type "list",data:=.seq vs.toArray }→IntsAre vs ns→ns.length≤n→(∀ i∈ns,Builtin.Int.intBits i≤1048576)→s₁.gens=#[] →
      codeAny (model l.prog w) callerA (.call (.ref fa) ⟨[.ref a],[]⟩) (fun r s'=>r=.ok (.ret (.bool true))∧OldK s₁.heap s'.heap∧s'.os=s₁.os∧AllBare s'.gens) s₁) :
    WalkO q loose XP YP l.row.toRowW d [] (fun f vs=>PySem.call f vs):=by
  intro w s₀ s₁ mg mb G Y fa o pm cd doc dV kV ho hd hcd hD hmg hg args vals as hpre hlay hrd hwl hlo
  obtain rfl:dV=.none:=Dflts.none hD hdf
  obtain rfl:kV=.none:=Dflts.noKw hD
  obtain ⟨a,vs,ns,rfl,rfl,hobj,hints,hlen⟩:=Att.script_of hn hpre hwl
  refine enter_call (codeAny_mono (call w s₀ s₁ mg mb fa o pm cd doc a vs ns G Y ho (fd_plain hd) hcd hmg hobj hints hlen (gH hlay) hg) fun r s' hq=>?_)
  obtain ⟨rfl,h2,h3,h4⟩:=hq
  exact⟨.inl ⟨.bool true,.bool true,[],rfl,fun _=>rfl,.bool true,Att.post_true l _,fun _=>⟨List.Pairwise.nil,fun _ hm=>(nomatch hm)⟩⟩,h2,h3,h4⟩
end DLH
namespace DL
open PySem PySem.Spec PyProof.Rows L2
theorem walkB {l:PySem.W.OpenLaw} {k:Nat} {q:Program} {loose:List Str} {XP:(Str→Option Value)→Heap→Prop} {YP:World→Heap→Prop} {d:DefRec} {K:Params→PySem.W.Frag} {x:Str}
    (hn:l.most=some 63) (hdf:d.params.defaults=[]) (hr:Room k PySem.callerA) (hY:∀ (w:World) (h:Heap),YP w h→(K w.params).In h)
    (F:∀ (w:World) (mg:Str→Option Value) (fa:Addr) (h:Heap),(K w.params).In h→h.Ns mainGlobals mg→mg d.name=some (.ref fa) →
      ∃ fd:FuncData,(∀ (s:Shared) (u:Value),BindsTo s fd ⟨[u],[]⟩ [(x,u)])∧∀ base:Heap,(K w.params).In base→base.Ns mainGlobals mg→FnOk l.prog w (K w.params) mg base CX0 k fa fd [x] (xT (K w.params))) :
    PySem.W.WalkO q loose XP YP l.row.toRowW d [] (fun f vs=>PySem.call f vs):=by
  refine DLH.attach_callB hn hdf fun w s₀ s₁ mg mb fa o pm cd doc a vs ns G Y ho hd hcd hmg hobj hints hlen hbits hg=>?_
  have KX:=hY w _ Y
  obtain ⟨fd,hb,hF⟩:=F w mg fa _ KX G.T.g hmg
  exact sI KX G.T.g G.T.b G.T.builtins G.T.nolimit hg hobj hints (Nat.le_trans hlen (by decide)) hr hF hb (fun H hO hS=>⟨a,ns,rfl,hS,hO,hlen,hbits,fun _=>rfl⟩) fun H e s' z=>z
end DL
namespace DL
open PySem PySem.Spec PyProof.Rows L2
def pY (ifs:List Expr) (env:Env):Sem Bool:=forIn ifs true fun c r=>if r=true then do let ok←isTrue c env (eval c env);pure (ForInStep.yield ok) else pure (ForInStep.yield r)
def PF (X:Cx) (ifs:List Expr) (t:TT):Prop :=
 ∀ (pins:List (Addr×Obj)) (s:Shared) (σ:L2.St) (H:Hp) (Q:Bool→Hp→Prop),Inv X pins σ H s→t σ H Q→wpAny (model X.prog X.w) X.A (pY ifs X.env) (TP X pins σ Q) X.xe s
theorem zW {X:Cx}:PF X [] (fun _ H Q=>Q true H):=fun _ _ _ H _ I h=>wpAny_tests_nil ⟨H,I,h⟩
theorem zn {X:Cx} {c:Expr} {t:TT} (h:PT X c t):PF X [c] t:=fun pins s σ H Q I q=>wpAny_tests_one (h pins s σ H Q I q)
theorem ek {prog:Program} {w:World} {A:Around} {R:Result→Shared→Prop} {s:Shared} {elt target iter:Expr} {ifs:List Expr} {scope:Scope} {pos:Pos} {it acc:Value} {env:Env} (I:Nat→Shared→Prop)
    (turn:∀ n s,I n s→wpAny (model prog w) A (pyNext it) (fun r s₁=>match r with
      | none=>R (.ok .next) s₁
      | some v=>wpAny (model prog w) A (letOwnedTupleGo target it v) (fun _ s₁'=>wpAny (model prog w) A (assign target env v) (fun _ s₂ =>
          wpAny (model prog w) A (pY ifs env) (fun ok s₃ =>
            if ok=true then wpAny (model prog w) A (eval elt env) (fun x s₄ =>
              wpAny (model prog w) A (call (.builtin "list.append") [acc,x]) (fun _ s₅=>∃ m,m < n∧I m s₅) (fun _ _=>False) s₄) (fun _ _=>False) s₃
            else ∃ m,m < n∧I m s₃) (fun _ _=>False) s₂) (fun _ _=>False) s₁') (fun _ _=>False) s₁) (fun _ _=>False) s)
    (n:Nat) (h:I n s) :
    codeAny (model prog w) A (.compLoop (.ListComp elt [⟨target,iter,ifs,0⟩] scope pos) 0 it acc env) R s:=by
  refine codeAny_loop rfl I (fun n s hI=>?_) n h
  show wpAny _ A ((compTurn (.ListComp elt [⟨target,iter,ifs,0⟩] scope pos) 0 it acc env).onRaise (fun x=>do noteFrame x env;theTreesLotGoes x)) _ _ s
  refine wpAny_noted ?_
  rw [compTurn_list]
  refine wpAny_bind (wpAny_standAt (wpAny_bind (wpAny_mono (turn n s hI) (fun r s₁ h₁=>?_) fun _ _ h'=>h'.elim)))
  cases r with
  | none=>exact wpAny_pure h₁
  | some v =>
    refine wpAny_bind (wpAny_mono h₁ (fun _ s₁' h₁'=>?_) fun _ _ h'=>h'.elim)
    refine wpAny_bind (wpAny_mono h₁' (fun _ s₂ h₂=>wpAny_bind (wpAny_mono h₂ (fun ok s₃ h₃=>?_) fun _ _ h'=>h'.elim)) fun _ _ h'=>h'.elim)
    cases ok with
    | false=>exact wpAny_pure ⟨rfl,h₃⟩
    | true =>
      exact wpAny_bind (wpAny_bind (wpAny_mono h₃ (fun x s₄ h₄=>wpAny_bind (wpAny_mono h₄ (fun _ s₅ h₅=>wpAny_pure (wpAny_pure ⟨rfl,h₅⟩)) fun _ _ h'=>h'.elim)) fun _ _ h'=>h'.elim))
def df (X:Cx) (N':List Str) (scope:Scope) (cl:List (Str×Addr)) (s2:Shared) (H2:Hp) (C:Addr) (fp:List Addr) (pn:List (Addr×Obj)):Cx where
 prog:=X.prog
 w:=X.w
 K:=X.K
 mg:=X.mg
 base:=X.base
 A:=X.A
 N:=N'
 s₀:=s2
 H₀:=H2
 env:=compEnvC scope cl C X.env
 outer:=X.stack
 stack:=X.stack
 ex:=fp
 fn:=fun _=>false
 calm:=X.calm
 pn:=pn
 xe:=fun _ _=>False
def capS (nt:Nat) (caps:List (Nat×Str)) (σ:L2.St):L2.St:=List.replicate nt none++caps.map fun p=>(σ[p.1]?).join
def xu (wi:TI) (nt:Nat) (caps:List (Nat×Str)) (g:TG) (tc:TT) (te:TE):TE:=fun σ H Q=>wi σ H fun J H1=>∀ p,H1 p=none →
 ∃ W:Nat→Nat→List V→L2.St→Hp→Prop,(∃ m,W 0 m [] (capS nt caps σ) (upd H1 p (.lst [])))∧∀ i m xs σ' H',W i m xs σ' H'→(J.stop i H'∧Q (.ref p) H')∨(J.go i H'∧∀ x H2,J.yld i H' x H2 →
  g x σ' H2 fun σ2 H3=>tc σ2 H3 fun b H4=>if b=true then te σ2 H4 fun y H5=>H5 p=some (.lst xs)∧xs.length < sizeLine∧∃ m',m' < m∧W (i + 1) m' (xs++[y]) σ2 (upd H5 p (.lst (xs++[y]))) else ∃ m',m' < m∧W (i + 1) m' xs σ2 H4)
theorem mW {X:Cx} {elt tgt iter:Expr} {ifs:List Expr} {scope:Scope} {pos:Pos} {wi:TI} {cl:List (Str×Addr)} (tn:List Str) (caps:List (Nat×Str)) {g:TG} {tc:TT} {te:TE}
    (hcalm:X.calm=true) (hclos:closureFor scope X.env=pure cl) (hcell:∀ y∈scope.names,y.2≠.cell) (hkind:scope.kind=.function) (hnames:∀ y∈scope.names,y.2=.local→scope.names.lookup y.1=some .local)
    (hcl:∀ x c,cl.lookup x=some c→X.env.cells.lookup x=some c) (hhas:∀ x,((relabel scope X.env).names.lookup x=some .cell∨(relabel scope X.env).names.lookup x=some .free)→∃ c,cl.lookup x=some c)
    (hcap:∀ p∈caps,X.N[p.1]?=some p.2∧X.env.scope.names.lookup p.2=some .cell∧((relabel scope X.env).names.lookup p.2=some .cell∨(relabel scope X.env).names.lookup p.2=some .free))
    (hi:PI X.nox tgt iter wi)
    (hb:∀ s2 H2 C fp pn,PG (df X (tn++caps.map (·.2)) scope cl s2 H2 C fp pn) tgt g∧PF (df X (tn++caps.map (·.2)) scope cl s2 H2 C fp pn) ifs tc∧PE (df X (tn++caps.map (·.2)) scope cl s2 H2 C fp pn) elt te)
    (hs:∀ x,foldedSetIterable iter X.env x=pure x:=by intro _;rfl)
    {posF:Pos} {use:Option (Value→Sem Unit)} {Qf:Value→Shared→Prop} (pins:List (Addr×Obj)) (s:Shared) (σ:L2.St) (H:Hp) (Q:VK) (I:Inv X.nox pins σ H s) (h:xu wi tn.length caps g tc te σ H Q)
    (fin:∀ p C m4 H3 s4,Inv X.nox pins σ H3 s4→s4.heap.Ns C m4→FpOk X.nox pins H3 C→Q (.ref p) H3→compPost (model X.prog X.w) X.A (fun _ _=>False) use Qf (.ref p) C (.ok .next) s4) :
    wpAny (model X.prog X.w) X.A (comprehension (.ListComp elt [⟨tgt,iter,ifs,0⟩] scope pos) scope X.env posF (newList []) false (eval iter X.env) use) Qf (fun _ _=>False) s:=by
  refine wpAny_comprehension_free (use:=use) rfl hs hclos hkind hnames (wpAny_mono (hi pins s σ H _ I h) (fun x s₁ h₁=>wpAny_mono h₁ (fun itv s₂ h₂=>?_) fun _ _ e=>e) fun _ _ e=>e)
  obtain ⟨it,fp,tnr,J,H1,rfl,I1,T,st,hfp,q⟩:=h₂
  refine wpAny_newObj_type (wpAny_newFunctionEnv hcell (by intro y hy;simp at hy) (fun h₁ hns₁ hsb₁=>?_) hkind)
  dsimp only at hns₁ hsb₁ ⊢
  generalize hH2:s₂.heap.push { cls:=.type "list",dict:=none,data:=.seq ([]:List Value).toArray }=Hq at hns₁ hsb₁ ⊢
  have hC:Hq.objs.size=s₂.heap.objs.size + 1:=by rw [← hH2,Heap.size_push]
  generalize hCe:Hq.objs.size=C at hns₁ hsb₁ hC ⊢
  generalize hpe:s₂.heap.objs.size=p at hC ⊢
  obtain ⟨m1,hns₁⟩:∃ m,h₁.Ns C m:=⟨_,hns₁⟩
  have hpC:p≠C:=Nat.ne_of_lt (by rw [hC];exact Nat.lt_succ_self _)
  have hbs:∀ b,b < s₂.heap.objs.size→b≠C∧b≠p:=fun b hb=>⟨Nat.ne_of_lt (by rw [hC,← hpe];exact Nat.lt_succ_of_lt hb),Nat.ne_of_lt (by rw [← hpe];exact hb)⟩
  have hple:s₂.heap.objs.size≤p:=Nat.le_of_eq hpe
  have hCle:s₂.heap.objs.size≤C:=by rw [hC,← hpe];exact Nat.le_succ _
  have old:∀ b o,s₂.heap.get? b=some o→h₁.get? b=some o:=fun b o e =>
    hsb₁.extBut b o (hbs b (Heap.lt_size e)).1 (Heap.get?_push_of_some _ (hH2 ▸ Heap.get?_push_of_some _ e))
  have hacc:h₁.get? p=some { cls:=.type "list",data:=.seq ([]:List Value).toArray 0 }:=by
    refine hsb₁.extBut p _ hpC ?_
    rw [← hpe]
    exact Heap.get?_push_of_some _ (hH2 ▸ Heap.get?_push_size _ rfl)
  have hfree:H1 p=none:=I1.hok.fresh hple
  have hfreeC:H1 C=none:=I1.hok.fresh hCle
  obtain ⟨W,⟨m0,w0⟩,turn⟩:=q p hfree
  have X'def:∃ X',X'=df X (tn++caps.map (·.2)) scope cl s₂ H1 C fp (X.pn++pins):=⟨_,rfl⟩
  obtain ⟨X',hX'⟩:=X'def
  have hstk:∀ b∈frs X.stack,b=X.env.locals∨b∈X.fs:=fun b hb=>List.mem_cons.mp (I1.stkSub b hb)
  have hfpl:∀ b∈fp,b < s₂.heap.objs.size:=fun b hb=>let ⟨_,e,_⟩:=T.obj _ _ st b hb;Heap.lt_size e
  have hfps:∀ b∈fp,b∉frs X.stack:=fun b hb z=>(hstk b z).elim (fun e=>(hfp b hb).2.1 e) fun e=>(hfp b hb).2.2.1 e
  have hcells:∀ x c,cl.lookup x=some c→c < s₂.heap.objs.size∧H1 c=none:=fun x c e=>by
    obtain ⟨v,hv⟩:=I1.cell x c (hcl x c e)
    exact⟨hv.lt,I1.freeC x c (hcl x c e)⟩
  have ok:X'.Ok:=by
    subst hX'
    have o:=I1.ok
    exact { mod:=o.mod
            kind:=by show (relabel scope X.env).kind=.function;exact hkind
            glob:=o.glob
            blt:=o.blt
            above:=hCle
            inj:=fun x y c h1 h2=>o.inj x y c (hcl x c h1) (hcl y c h2)
            has:=fun x hx=>hhas x hx
            cab:=fun x c h1 _=>nomatch h1
            hd:=o.hd
            frames:=o.frames
            stk:=.inl rfl
            exf:=fun b hb=>⟨(hbs b (hfpl b hb)).1,fun x c e=>fun z=>(hfp b hb).2.2.2.2.1 x c (hcl x c e) z⟩
            bs:=fun b ob e=>I1.bs b ob e
            bsz:=Nat.le_trans o.bsz I1.sz
            noex:=fun b ob e hb=>by
              obtain ⟨_,_,_,hh,_⟩:=hfp b hb
              rcases hh with hh | hh
              · exact o.noex b ob e hh
              · exact absurd (Heap.lt_size (I1.ok.bs b ob e).1) (Nat.not_lt.mpr hh)
            exfs:=hfps
            funs:=I1.stack
            frf:=I1.stkFree }
  have capOk:∀ (m:Str→Option Value) (i:Nat) (x:Str) (v:V),X'.N[i]?=some x→(capS tn.length caps σ)[i]?=some (some v)→Vis X'.env.scope x→∃ u,RelV v u∧Look X'.env h₁ m x u:=by
    subst hX'
    intro m i x v hN hσ hv
    have hN:(tn++caps.map (·.2))[i]?=some x:=hN
    unfold capS at hσ
    by_cases hi:i < tn.length
    · rw [List.getElem?_append_left (by rw [List.length_replicate];exact hi),List.getElem?_replicate,if_pos hi] at hσ
      cases hσ
    · rw [List.getElem?_append_right (by rw [List.length_replicate];omega),List.length_replicate] at hσ
      rw [List.getElem?_append_right (by omega)] at hN
      rw [List.getElem?_map] at hσ hN
      cases hc:caps[i - tn.length]? with
      | none=>rw [hc] at hN;cases hN
      | some pr =>
        rw [hc] at hN hσ
        have hN:pr.2=x:=Option.some.inj hN
        have hσ:(σ[pr.1]?).join=some v:=Option.some.inj hσ
        obtain ⟨c1,c2,c3⟩:=hcap pr (List.mem_of_getElem? hc)
        subst hN
        have hσ':σ[pr.1]?=some (some v):=by
          cases z:σ[pr.1]? with
          | none=>rw [z] at hσ;cases hσ
          | some o=>rw [z] at hσ;exact congrArg some hσ
        obtain ⟨m1,hm1,hl1⟩:=I1.loc
        obtain ⟨u,ru,lk⟩:=hl1 pr.1 pr.2 v c1 hσ' (.inr (.inl c2))
        refine⟨u,ru,.inr ⟨c3,?_⟩⟩
        rcases lk with ⟨k,_⟩ | ⟨_,c,ec,ic⟩
        · have k:X.env.scope.names.lookup pr.2=some .local :=k
          rw [c2] at k
          cases k
        · obtain ⟨c',ec'⟩:=hhas pr.2 c3
          have e1:=hcl _ _ ec'
          have ec:X.env.cells.lookup pr.2=some c:=ec
          rw [ec] at e1
          cases e1
          exact⟨c,ec',ic.keeps old⟩
  have un0:Un (frs X.stack) fp H1 (upd H1 p (.lst [])) s₂.heap h₁:=Un.laid old hple hfree
  have I4:∀ tk,Inv X' [] (capS tn.length caps σ) (upd H1 p (.lst [])) { s₂ with heap:=h₁,toks:=tk }:=fun tk=>by
    have hN:X'.N=tn++caps.map (·.2):=by rw [hX'];rfl
    refine⟨ok,?_,I1.bare,?_,⟨m1,?_,fun i x v e1 e2 e3=>?_⟩,fun x c e=>?_,?_,fun x c e=>?_,fun pr hp=>?_,?_,?_⟩
    · rw [hX'];rfl
    · rw [hX'];exact un0
    · rw [hX'];exact hns₁
    · exact capOk _ i x v e1 e2 e3
    · rw [hX'] at e
      obtain ⟨v,hv⟩:=I1.cell x c (hcl x c e)
      exact⟨v,hv.keeps old⟩
    · rw [hX']
      show upd H1 p (.lst []) C=none
      rw [aE (Ne.symm hpC)]
      exact hfreeC
    · rw [hX'] at e
      have hc:=hcells x c e
      show upd H1 p (.lst []) c=none
      rw [aE (hbs c hc.1).2]
      exact hc.2
    · rw [hX'] at hp
      have hp:pr∈(X.pn++pins)++[]:=hp
      rw [List.append_nil] at hp
      obtain ⟨e,n,nl,nf,d⟩:=I1.pin pr hp
      have hlt:=Heap.lt_size e
      refine⟨old _ _ e,?_,?_,fun z=>?_,d⟩
      · rw [aE (hbs _ hlt).2];exact n
      · rw [hX'];exact (hbs _ hlt).1
      · rw [hX'] at z
        exact (hstk _ z).elim nl nf
    · have e1:X'.prog=X.prog:=by rw [hX'];rfl
      have e2:X'.w=X.w:=by rw [hX'];rfl
      rw [e1,e2]
      exact I1.hok.laid old hple ⟨Nat.zero_le _,[],0,.nil,hacc⟩
    · rw [hN]
      unfold capS
      rw [List.length_append,List.length_append,List.length_replicate,List.length_map,List.length_map]
  have fpk:∀ H',(∀ b∈fp,H' b=none)→∀ b∈fp,FpOk X' [] H' b:=fun H' hn b hb=>by
    rw [hX']
    refine⟨hn b hb,(hbs b (hfpl b hb)).1,hfps b hb,.inl hb,fun x c e=>fun z=>(hfp b hb).2.2.2.2.1 x c (hcl x c e) z,fun pr hp=>?_⟩
    have hp:pr∈(X.pn++pins)++[]:=hp
    rw [List.append_nil] at hp
    exact (hfp b hb).2.2.2.2.2 pr hp
  obtain ⟨hg,hf,he⟩:=hb s₂ H1 C fp (X.pn++pins)
  rw [← hX'] at hg hf he
  have p1:X'.prog=X.prog:=by rw [hX'];rfl
  have p2:X'.w=X.w:=by rw [hX'];rfl
  have p3:X'.K=X.K:=by rw [hX'];rfl
  have p4:X'.calm=true:=by rw [hX'];exact hcalm
  have p5:X'.env=compEnvC scope cl C X.env:=by rw [hX'];rfl
  have p6:X'.A=X.A:=by rw [hX'];rfl
  have p7:X'.xe=fun _ _=>False:=by rw [hX'];rfl
  have st1:tnr 0 h₁:=T.keep _ _ _ st fun b hb o e=>old b o e
  have loop:∀ tk,codeAny (model X.prog X.w) X.A (.compLoop (.ListComp elt [⟨tgt,iter,ifs,0⟩] scope pos) 0 (.ref it) (.ref p) (compEnvC scope cl C X.env))
      (compPost (model X.prog X.w) X.A (fun _ _=>False) use Qf (.ref p) C) { s₂ with heap:=h₁,toks:=tk }:=fun tk=>by
    refine ek (fun n s'=>∃ i xs σ' H',Inv X' [] σ' H' s'∧tnr i s'.heap∧(∀ b∈fp,H' b=none)∧W i n xs σ' H') ?_ m0 ⟨0,[],_,_,I4 tk,st1,fun b hb=>?_,w0⟩
    · rintro n s3 ⟨i,xs,σ3,H3,I3,st3,fr3,w3⟩
      rcases turn i n xs σ3 H3 w3 with ⟨stop,qn⟩ | ⟨go,step⟩
      · have q1:=T.done X' p1 p2 p3 p4 i [] s3 _ H3 (fun _ _=>False) I3 (fpk H3 fr3) st3 stop
        rw [p6] at q1
        refine thn q1 fun r s4 ⟨hr,I4'⟩=>?_
        subst hr
        obtain ⟨m4,hm4,_⟩:=I4'.loc
        rw [p5] at hm4
        have hb4:=I4'.base
        rw [hX'] at hb4
        have hb4:Un (frs X.stack) fp H1 H3 s₂.heap s4.heap:=hb4
        have hfc:H3 C=none:=by
          have z:=I4'.free
          rw [p5] at z
          exact z
        have hok4:HOk X.prog X.w H3 s4.heap:=by
          have hk:=I4'.hok
          rw [p1,p2] at hk
          exact hk
        have hos:s4.os=s₂.os:=by
          have z:=I4'.os
          rw [hX'] at z
          exact z
        have I9:=I1.call' (s':=s4) (ch:=fp) hos hb4 hok4 I4'.bare (fun b hb=>by
          obtain ⟨_,f1,f2,f3,f4,f5⟩:=hfp b hb
          exact⟨f3,f1,f4,f5⟩)
        exact fin p C m4 H3 s4 I9 hm4 ⟨hfc,(I1.fpOk hCle hfreeC).2⟩ qn
      · have q1:=T.item X' p1 p2 p3 p4 i [] s3 _ H3 (fun _ _=>False) I3 (fpk H3 fr3) st3 go
        rw [p6] at q1
        refine thn q1 fun r s4 ⟨u,hr,h4⟩=>?_
        subst hr
        refine thn h4 fun _ s5 ⟨x,H5,I5,r5,y5,st5,fr5⟩=>?_
        have I5':=I5.pinned (fpk H5 fr5) (T.obj _ _ st5)
        have q5:=hg _ s5 _ H5 x u _ I5' r5 (step x H5 y5)
        rw [p1,p2,p5,p6,p7] at q5
        refine thn q5 fun _ s6 ⟨σ6,H6,I6,q6⟩=>?_
        have q6:=hf _ s6 σ6 H6 _ I6 q6
        rw [p1,p2,p5,p6,p7] at q6
        refine thn q6 fun b s7 ⟨H7,I7,q7⟩=>?_
        have again:∀ {s8:Shared} {H8:Hp},Inv X' ([]++kN fp s5.heap) σ6 H8 s8→Inv X' [] σ6 H8 s8∧tnr (i + 1) s8.heap∧(∀ b∈fp,H8 b=none):=fun {s8 H8} I8=>by
          refine⟨I8.unpinned,T.keep _ _ _ st5 fun b hb o e=>(I8.pin (b,o) (List.mem_append_right _ (List.mem_append_right _ (d5 hb e)))).1,fun b hb=>?_⟩
          obtain ⟨o,e,d⟩:=T.obj _ _ st5 b hb
          exact (I8.pin (b,o) (List.mem_append_right _ (List.mem_append_right _ (d5 hb e)))).2.1
        cases b with
        | false =>
          obtain ⟨m',hm,w7⟩:=q7
          obtain ⟨a1,a2,a3⟩:=again I7
          exact⟨m',hm,i + 1,xs,σ6,H7,a1,a2,a3,w7⟩
        | true =>
          rw [if_pos rfl]
          have q8:=he _ s7 σ6 H7 _ I7 q7
          rw [p1,p2,p5,p6,p7] at q8
          refine thn q8 fun y s8 ⟨yv,H8,I8,ry,hac,hsz,m',hm,w8⟩=>?_
          have q9:=kB (X:=X') _ s8 σ6 H8 (.ref p) [yv] (.ref p) [y] (fun _ H9=>H9=upd H8 p (.lst (xs++[yv]))) I8 rfl (.cons ry .nil) ⟨p,xs,yv,rfl,rfl,hac,hsz,rfl⟩
          rw [p1,p2,p6,p7] at q9
          refine thn q9 fun _ s9 ⟨_,H9,I9,_,e9⟩=>?_
          subst e9
          obtain ⟨a1,a2,a3⟩:=again I9
          exact⟨m',hm,i + 1,xs++[yv],σ6,_,a1,a2,a3,w8⟩
    · rw [aE (hbs b (hfpl b hb)).2]
      exact (hfp b hb).1
  have L0:=loop (s₂.toks + ([]:List (Str×Value)).length)
  exact codeAny_compStart_list L0 (T.self _ _ _ _ _ st1 L0)
theorem wB {X:Cx} {elt tgt iter:Expr} {ifs:List Expr} {scope:Scope} {pos:Pos} {wi:TI} {cl:List (Str×Addr)} (tn:List Str) (caps:List (Nat×Str)) {g:TG} {tc:TT} {te:TE}
  (hcalm:X.calm=true) (hclos:closureFor scope X.env=pure cl) (hcell:∀ y∈scope.names,y.2≠.cell) (hkind:scope.kind=.function) (hnames:∀ y∈scope.names,y.2=.local→scope.names.lookup y.1=some .local)
  (hcl:∀ x c,cl.lookup x=some c→X.env.cells.lookup x=some c) (hhas:∀ x,((relabel scope X.env).names.lookup x=some .cell∨(relabel scope X.env).names.lookup x=some .free)→∃ c,cl.lookup x=some c)
  (hcap:∀ p∈caps,X.N[p.1]?=some p.2∧X.env.scope.names.lookup p.2=some .cell∧((relabel scope X.env).names.lookup p.2=some .cell∨(relabel scope X.env).names.lookup p.2=some .free))
  (hi:PI X.nox tgt iter wi)
  (hb:∀ s2 H2 C fp pn,PG (df X (tn++caps.map (·.2)) scope cl s2 H2 C fp pn) tgt g∧PF (df X (tn++caps.map (·.2)) scope cl s2 H2 C fp pn) ifs tc∧PE (df X (tn++caps.map (·.2)) scope cl s2 H2 C fp pn) elt te)
  (hs:∀ x,foldedSetIterable iter X.env x=pure x:=by intro _;rfl) :
  PE X.nox (.ListComp elt [⟨tgt,iter,ifs,0⟩] scope pos) (xu wi tn.length caps g tc te):=by
 intro pins s σ H Q I h
 rw [eval_ListComp]
 refine mW tn caps hcalm hclos hcell hkind hnames hcl hhas hcap hi hb hs (use:=none) pins s σ H Q I h fun p C m4 H3 s4 I9 hm4 hf q=>?_
 obtain ⟨f0,f1,f2,f3,f4,f5⟩:=hf
 exact⟨m4,hm4,fun h' hs'=>⟨.ref p,H3,I9.turned (t':=s4.toks) (fun b o hb e=>hs'.extBut b o hb e) f0 f1 f3 f4 f5,rfl,q⟩⟩
theorem nr {X:Cx} {elt tgt iter:Expr} {ifs:List Expr} {scope:Scope} {pos:Pos} {wi:TI} {cl:List (Str×Addr)} (tn:List Str) (caps:List (Nat×Str)) {g:TG} {tc:TT} {te:TE}
  (hcalm:X.calm=true) (hclos:closureFor scope X.env=pure cl) (hcell:∀ y∈scope.names,y.2≠.cell) (hkind:scope.kind=.function) (hnames:∀ y∈scope.names,y.2=.local→scope.names.lookup y.1=some .local)
  (hcl:∀ x c,cl.lookup x=some c→X.env.cells.lookup x=some c) (hhas:∀ x,((relabel scope X.env).names.lookup x=some .cell∨(relabel scope X.env).names.lookup x=some .free)→∃ c,cl.lookup x=some c)
  (hcap:∀ p∈caps,X.N[p.1]?=some p.2∧X.env.scope.names.lookup p.2=some .cell∧((relabel scope X.env).names.lookup p.2=some .cell∨(relabel scope X.env).names.lookup p.2=some .free))
  (hi:PI X.nox tgt iter wi)
  (hb:∀ s2 H2 C fp pn,PG (df X (tn++caps.map (·.2)) scope cl s2 H2 C fp pn) tgt g∧PF (df X (tn++caps.map (·.2)) scope cl s2 H2 C fp pn) ifs tc∧PE (df X (tn++caps.map (·.2)) scope cl s2 H2 C fp pn) elt te)
  (hs:∀ x,foldedSetIterable iter X.env x=pure x:=by intro _;rfl) {i:Nat} {y:Str} {pos' pos2:Pos} (hN:X.N.Nodup) (hi':X.N[i]?=some y) (hx:Loc X.env.scope y) (hsw:swapsWith (.ListComp elt [⟨tgt,iter,ifs,0⟩] scope pos) (some (.Name y pos')) pos2.line X.env=pure true) (hf:X.fn y=true∨X.env.scope.names.lookup y=some .local) :
  PS X.nox (.Assign [.Name y pos'] (.ListComp elt [⟨tgt,iter,ifs,0⟩] scope pos) pos2) (tAsg (xu wi tn.length caps g tc te) (qV i)):=by
 intro pins s σ H D I h
 show wpAny (model X.prog X.w) X.A (exec (.Assign [.Name y pos'] (.ListComp elt [⟨tgt,iter,ifs,0⟩] scope pos) pos2) X.env) _ _ s
 rw [exec_Assign_Name_used _ _ _ _ hsw]
 refine wpAny_bind (wpAny_standAt (wpAny_bind ?_))
 show wpAny _ _ (do let _←comprehension (.ListComp elt [⟨tgt,iter,ifs,0⟩] scope pos) scope X.env _ (newList []) false (eval iter X.env) (some (assign (.Name y pos') X.env))) _ _ s
 refine wpAny_bind (wpAny_mono (mW tn caps hcalm hclos hcell hkind hnames hcl hhas hcap hi hb hs (use:=some (assign (.Name y pos') X.env)) (Qf:=fun _ s'=>SP X.nox pins D .next s') pins s σ H _ I h fun p C m4 H3 s4 I9 hm4 hfp q=>?_) (fun _ s' hq=>wpAny_pure (wpAny_pure hq)) fun _ _ e=>e)
 obtain ⟨f0,f1,f2,f3,f4,f5⟩:=hfp
 show wpAny _ _ (assign (.Name y pos') X.env (.ref p)) _ _ s4
 refine wpAny_assign_Name (kP (X:=X.nox) I9 hN hi' hx (v:=.ref p) rfl (fun s5 I5 ⟨a,sb,ha⟩=>?_) hf)
 have hac:C≠a:=by
  rcases ha with rfl | ha
  ·exact f1
  ·exact fun z=>f4 y a ha z.symm
 refine⟨m4,hm4.sameBut sb hac,fun h' hs'=>⟨_,H3,I5.turned (t':=s5.toks) (fun b o hb e=>hs'.extBut b o hb e) f0 f1 f3 f4 f5,q⟩⟩
end DL
namespace DL
open PySem PySem.Spec PyProof.Rows L2
theorem fB:bootBuiltins "len"=some (.builtin "len"):=by decide +kernel
theorem zz:bootBuiltins "abs"=some (.builtin "abs"):=by decide +kernel
theorem jS:bootBuiltins "isinstance"=some (.builtin "isinstance"):=by decide +kernel
theorem AX:bootBuiltins "min"=some (.builtin "min"):=by decide +kernel
theorem c5:bootBuiltins "sorted"=some (.builtin "sorted"):=by decide +kernel
theorem AA:bootBuiltins "int"=some (.type "int"):=by decide +kernel
theorem Al:bootBuiltins "bool"=some (.type "bool"):=by decide +kernel
theorem dS:bootBuiltins "tuple"=some (.type "tuple"):=by decide +kernel
theorem vi:bootBuiltins "list"=some (.type "list"):=by decide +kernel
theorem uU:bootBuiltins "dict"=some (.type "dict"):=by decide +kernel
section
variable {X:Cx}
theorem aS.imp {K:PySem.W.Frag} {f g:List D→(D→Prop)→Prop} {vs:List V} {H:Hp} {Q:VK} (h:∀ ds R,f ds R→g ds R) (p:aS K f vs H Q):aS K g vs H Q :=
 let ⟨M,ds,R,m,rs,hf,k⟩:=p;⟨M,ds,R,m,rs,h ds R hf,k⟩
def zQ:List D→(D→Prop)→Prop
 | [.tup xs,.tup ys],R=>xs≠[]∧ys≠[]∧xs.length + ys.length≤9000∧R (.tup (xs++ys))
 | _,_=>False
theorem uu {d0:List D} {R:D→Prop} (h:zQ d0 R):∃ (xs:List D) (ys:List D),d0=[.tup xs,.tup ys]∧xs≠[]∧ys≠[]∧xs.length + ys.length≤9000∧R (.tup (xs++ys)):=by
 rcases d0 with _ | ⟨a,_ | ⟨b,_ | ⟨c,l⟩⟩⟩
 ·exact False.elim h
 ·cases a<;>exact False.elim h
 ·cases a<;>first | exact False.elim h | (cases b<;>first | exact False.elim h | exact⟨_,_,rfl,h⟩)
 ·cases a<;>first | exact False.elim h | (cases b<;>exact False.elim h)
theorem zY:OpR X (binaryOp .Add) fun x y=>aS X.K zQ [x,y] :=
 OpR.imp wu fun x y H Q ⟨M,ds,R,m,rs,h,k⟩=>by
  replace h:=uu h
  obtain ⟨_,_,rfl,h⟩:=h
  ·obtain ⟨n1,n2,hz,q⟩:=h
   obtain ⟨h1,h2⟩:=b6 rs
   unfold Rep at h1 h2
   obtain ⟨a,vs,e,l,r⟩:=h1
   obtain ⟨b,ws,e',l',r'⟩:=h2
   have l1:=Reps.length _ _ r
   have l2:=Reps.length _ _ r'
   refine⟨a,b,vs,ws,e,e',l,l',fun z=>n1 (List.eq_nil_of_length_eq_zero (by rw [l1,z];rfl)),ej (by rw [← l1,← l2];exact hz),fun z=>absurd (List.eq_nil_of_length_eq_zero (by rw [l2,z];rfl)) n2,fun _ p hp=>k _ q _ _ (aD hp _) ?_⟩
   unfold Rep
   exact⟨p,vs++ws,rfl,SqT.of aq,Reps.kp (Kp.of_same (aD hp _)) _ _ (Reps.append _ _ _ _ r r')⟩
def rB:List D→(D→Prop)→Prop
 | [.int i,.int j],R=>R (.int (i + j))
 | [.lst xs,.lst ys],R=>xs.length + ys.length≤9000∧R (.lst (xs++ys))
 | [.tup xs,.tup ys],R=>xs≠[]∧ys≠[]∧xs.length + ys.length≤9000∧R (.tup (xs++ys))
 | _,_=>False
theorem ug {d0:List D} {R:D→Prop} (h:rB d0 R):(∃ (i:Int) (j:Int),d0=[.int i,.int j]∧R (.int (i + j)))∨(∃ (xs:List D) (ys:List D),d0=[.lst xs,.lst ys]∧xs.length + ys.length≤9000∧R (.lst (xs++ys)))∨(∃ (xs:List D) (ys:List D),d0=[.tup xs,.tup ys]∧xs≠[]∧ys≠[]∧xs.length + ys.length≤9000∧R (.tup (xs++ys))):=by
 rcases d0 with _ | ⟨a,_ | ⟨b,_ | ⟨c,l⟩⟩⟩
 ·exact False.elim h
 ·cases a<;>exact False.elim h
 ·cases a<;>first | exact False.elim h | (cases b<;>first | exact False.elim h | exact .inl ⟨_,_,rfl,h⟩ | exact .inr (.inl ⟨_,_,rfl,h⟩) | exact .inr (.inr ⟨_,_,rfl,h⟩))
 ·cases a<;>first | exact False.elim h | (cases b<;>exact False.elim h)
theorem bC:OpR X (binaryOp .Add) fun x y=>aS X.K rB [x,y] :=
 OpR.imp (OpR.or (OpR.or A9 Ay) zY) fun x y H Q ⟨M,ds,R,m,rs,h,k⟩=>by
  replace h:=ug h
  rcases h with ⟨_,_,rfl,h⟩ | ⟨_,_,rfl,h⟩ | ⟨_,_,rfl,h⟩
  ·exact .inl (.inl ⟨M,_,R,m,rs,⟨_,_,rfl,h⟩,k⟩)
  ·exact .inl (.inr ⟨M,_,R,m,rs,h,k⟩)
  ·exact .inr ⟨M,_,R,m,rs,h,k⟩
mutual
def D.dp:D→Nat
 | .tup xs=>D.dps xs + 1
 | .lst xs=>D.dps xs + 1
 | .fz xs=>D.dps xs + 1
 | .dct _ _=>0
 | .fd _ _=>0
 | .fo _ _ _=>0
 | .non=>0
 | .bl _=>0
 | .int _=>0
 | .str _=>0
def D.dps:List D→Nat
 | []=>0
 | x :: r=>max (D.dp x) (D.dps r)
end
mutual
def D.nd:D→Bool
 | .tup xs=>D.nds xs
 | .lst xs=>D.nds xs
 | .fz xs=>D.nds xs
 | .dct _ _=>false
 | .fd _ _=>false
 | .fo _ _ _=>false
 | .non=>true
 | .bl _=>true
 | .int _=>true
 | .str _=>true
def D.nds:List D→Bool
 | []=>true
 | x :: r=>D.nd x && D.nds r
end
theorem bg (A:Around):A.in1.units=A.units + 1:=rfl
theorem gu (n:Nat):((List.range n).all fun _=>true)=true:=by simp
section
variable {pins:List (Addr×Obj)} {σ:L2.St} {H:Hp} {s:Shared} {M:Addr→Prop}
mutual
theorem uT (I:Inv X pins σ H s):∀ (d:D) (A:Around) (v v':V) (u u':Value),d.nd=true→A.units + d.dp < cLine→Rep X.K M H d v→Rep X.K M H d v'→RelV v u→RelV v' u'→SeqAt.EqAt A s u u' true
 | .non,A,v,v',u,u',_,_,r,r',q,q'=>by
  unfold Rep at r r';subst r r'
  have:=nQ (A:=A) (s:=s) q q' rfl rfl
  exact this
 | .bl b,A,v,v',u,u',_,_,r,r',q,q'=>by
  unfold Rep at r r';subst r r'
  have:=nQ (A:=A) (s:=s) q q' rfl rfl
  simpa [eqV] using this
 | .int b,A,v,v',u,u',_,_,r,r',q,q'=>by
  unfold Rep at r r';subst r r'
  have:=nQ (A:=A) (s:=s) q q' rfl rfl
  simpa [eqV] using this
 | .str b,A,v,v',u,u',_,_,r,r',q,q'=>by
  unfold Rep at r r';subst r r'
  have:=nQ (A:=A) (s:=s) q q' rfl rfl
  simpa [eqV] using this
 | .tup ds,A,v,v',u,u',hn,hd,r,r',q,q'=>by
  unfold Rep at r r'
  obtain ⟨a,vs,rfl,sq,rs⟩:=r
  obtain ⟨b,ws,rfl,sq',rs'⟩:=r'
  cases q
  cases q'
  unfold D.dp at hd
  by_cases e:a=b
  ·subst e;exact SeqAt.EqAt.same _
  ·obtain ⟨its,r1,t1,_⟩:=I.tuple sq
   obtain ⟨its',r2,t2,_⟩:=I.tuple sq'
   have hs:its.length=its'.length:=by rw [← r1.length,← r2.length,← Reps.length _ _ rs,← Reps.length _ _ rs']
   have k:=SeqAt.RcAt.tuples (A:=A) (e:=fun _=>true) t1 t2 (by omega) (eqAt_Ds I ds A.in1 vs ws its its' hn (by rw [bg];omega) rs rs' r1 r2)
   have z:((List.range (min its.toArray.size its'.toArray.size)).all (fun _=>true) && its.toArray.size == its'.toArray.size)=true:=by simp [hs]
   rw [z] at k
   exact SeqAt.EqAt.of_refs e k
 | .lst ds,A,v,v',u,u',hn,hd,r,r',q,q'=>by
  unfold Rep at r r'
  obtain ⟨a,vs,rfl,_,sq,rs⟩:=r
  obtain ⟨b,ws,rfl,_,sq',rs'⟩:=r'
  cases q
  cases q'
  unfold D.dp at hd
  by_cases e:a=b
  ·subst e;exact SeqAt.EqAt.same _
  ·obtain ⟨its,r1,t1,_⟩:=I.list (SqL.of sq)
   obtain ⟨its',r2,t2,_⟩:=I.list (SqL.of sq')
   have hs:its.length=its'.length:=by rw [← r1.length,← r2.length,← Reps.length _ _ rs,← Reps.length _ _ rs']
   have k:=SeqAt.RcAt.lists (A:=A) (e:=fun _=>true) t1.isList t2.isList (by simp [hs]) (by omega) (eqAt_Ds I ds A.in1 vs ws its its' hn (by rw [bg];omega) rs rs' r1 r2)
   rw [gu] at k
   exact SeqAt.EqAt.of_refs e k
 | .fz ds,A,v,v',u,u',hn,hd,r,r',q,q'=>by
  unfold Rep at r r'
  obtain ⟨a,vs,rfl,sq,rs⟩:=r
  obtain ⟨b,ws,rfl,sq',rs'⟩:=r'
  cases q
  cases q'
  unfold D.dp at hd
  by_cases e:a=b
  ·subst e;exact SeqAt.EqAt.same _
  ·obtain ⟨its,r1,t1,_⟩:=I.list sq.seq
   obtain ⟨its',r2,t2,_⟩:=I.list sq'.seq
   have hs:its.length=its'.length:=by rw [← r1.length,← r2.length,← Reps.length _ _ rs,← Reps.length _ _ rs']
   have k:=SeqAt.RcAt.lists (A:=A) (e:=fun _=>true) t1.isList t2.isList (by simp [hs]) (by omega) (eqAt_Ds I ds A.in1 vs ws its its' hn (by rw [bg];omega) rs rs' r1 r2)
   rw [gu] at k
   exact SeqAt.EqAt.of_refs e k
 | .dct ks ds,A,v,v',u,u',hn,_,_,_,_,_=>by unfold D.nd at hn;cases hn
 | .fd ks ds,A,v,v',u,u',hn,_,_,_,_,_=>by unfold D.nd at hn;cases hn
 | .fo o ks ds,A,v,v',u,u',hn,_,_,_,_,_=>by unfold D.nd at hn;cases hn
theorem eqAt_Ds (I:Inv X pins σ H s):∀ (ds:List D) (A:Around) (vs ws:List V) (us us':List Value),D.nds ds=true→A.units + D.dps ds < cLine→Reps X.K M H ds vs→Reps X.K M H ds ws→Vals vs us→Vals ws us' →
  ∀ j (h1:j < us.toArray.size) (h2:j < us'.toArray.size),SeqAt.EqAt A s us.toArray[j] us'.toArray[j] true
 | [],A,vs,ws,us,us',_,_,r,r',q,q',j,h1,h2=>by
  unfold Reps at r
  subst r
  cases q
  exact absurd h1 (by simp)
 | d :: ds,A,vs,ws,us,us',hn,hd,r,r',q,q',j,h1,h2=>by
  unfold Reps at r r'
  obtain ⟨v,vr,rfl,rv,rs⟩:=r
  obtain ⟨w',wr,rfl,rw',rs'⟩:=r'
  unfold D.nds at hn
  obtain ⟨n1,n2⟩:=Bool.and_eq_true_iff.mp hn
  unfold D.dps at hd
  cases q with
  | @cons _ u0 _ ur qa qb =>
   cases q' with
   | @cons _ u1 _ ur' qa' qb' =>
    cases j with
    | zero=>exact uT I d A v w' _ _ n1 (by omega) rv rw' qa qa'
    | succ j =>
     have z:=eqAt_Ds I ds A vr wr ur ur' n2 (by omega) rs rs' qb qb' j (by simpa using h1) (by simpa using h2)
     simpa using z
end
end
theorem u9 {i j:Int}:decide (V.int i=V.int j)=decide (i=j):=by rw [ln];exact Bool.beq_eq_decide_eq _ _
theorem yo {i j:Bool}:decide (V.bl i=V.bl j)=decide (i=j):=by rw [sD];exact Bool.beq_eq_decide_eq _ _
theorem uV {i j:Str}:decide (V.str i=V.str j)=decide (i=j):=by rw [mE];exact Bool.beq_eq_decide_eq _ _
def fEq:List D→(D→Prop)→Prop
 | [.int i,.int j],R=>R (.bl (decide (i=j)))
 | [.str x,.str y],R=>R (.bl (decide (x=y)))
 | [.bl a,.bl b],R=>R (.bl (decide (a=b)))
 | [.tup xs,.tup ys],R=>(xs=ys∧D.nds xs=true∧D.dps xs≤60)∧R (.bl true)
 | [.lst xs,.lst ys],R=>((xs=ys∧D.nds xs=true∧D.dps xs≤60)∧R (.bl true))∨(xs.length≠ys.length∧R (.bl false))
 | _,_=>False
theorem zZ {d0:List D} {R:D→Prop} (h:fEq d0 R):(∃ (i:Int) (j:Int),d0=[.int i,.int j]∧R (.bl (decide (i=j))))∨(∃ (x:Str) (y:Str),d0=[.str x,.str y]∧R (.bl (decide (x=y))))∨(∃ (a:Bool) (b:Bool),d0=[.bl a,.bl b]∧R (.bl (decide (a=b))))∨(∃ (xs:List D) (ys:List D),d0=[.tup xs,.tup ys]∧(xs=ys∧D.nds xs=true∧D.dps xs≤60)∧R (.bl true))∨(∃ (xs:List D) (ys:List D),d0=[.lst xs,.lst ys]∧(((xs=ys∧D.nds xs=true∧D.dps xs≤60)∧R (.bl true))∨(xs.length≠ys.length∧R (.bl false)))):=by
 rcases d0 with _ | ⟨a,_ | ⟨b,_ | ⟨c,l⟩⟩⟩
 ·exact False.elim h
 ·cases a<;>exact False.elim h
 ·cases a<;>first | exact False.elim h | (cases b<;>first | exact False.elim h | exact .inl ⟨_,_,rfl,h⟩ | exact .inr (.inl ⟨_,_,rfl,h⟩) | exact .inr (.inr (.inl ⟨_,_,rfl,h⟩)) | exact .inr (.inr (.inr (.inl ⟨_,_,rfl,h⟩))) | exact .inr (.inr (.inr (.inr ⟨_,_,rfl,h⟩))))
 ·cases a<;>first | exact False.elim h | (cases b<;>exact False.elim h)
theorem wT {i j:Int} {R:D→Prop}:fEq [.int i,.int j] R↔R (.bl (decide (i=j))):=Iff.rfl
theorem wc {i j:Str} {R:D→Prop}:fEq [.str i,.str j] R↔R (.bl (decide (i=j))):=Iff.rfl
theorem zX {i j:Bool} {R:D→Prop}:fEq [.bl i,.bl j] R↔R (.bl (decide (i=j))):=Iff.rfl
theorem xh {i j:List D} {R:D→Prop}:fEq [.tup i,.tup j] R↔(i=j∧D.nds i=true∧D.dps i≤60)∧R (.bl true):=Iff.rfl
theorem o_eq (hu:X.A.units + 64 < cLine):OpR X (compareOp .Eq) fun x y=>aS X.K fEq [x,y]:=by
 intro pins s σ H x y v u Q I rx ry h
 obtain ⟨M,ds,R,m,rs,h,k⟩:=h
 replace h:=zZ h
 rcases h with ⟨_,_,rfl,h⟩ | ⟨_,_,rfl,h⟩ | ⟨_,_,rfl,h⟩ | ⟨_,_,rfl,h⟩ | ⟨_,_,rfl,h⟩
 ·obtain ⟨h1,h2⟩:=b6 rs
  cases aO h1
  cases aO h2
  refine wz pins s σ H _ _ v u Q I rx ry ⟨rfl,?_⟩
  rw [u9]
  exact k _ h _ H (Same.refl H) (Rep.sc rfl)
 ·obtain ⟨h1,h2⟩:=b6 rs
  cases bu h1
  cases bu h2
  refine wz pins s σ H _ _ v u Q I rx ry ⟨rfl,?_⟩
  rw [uV]
  exact k _ h _ H (Same.refl H) (Rep.sc rfl)
 ·obtain ⟨h1,h2⟩:=b6 rs
  cases gX h1
  cases gX h2
  refine wz pins s σ H _ _ v u Q I rx ry ⟨rfl,?_⟩
  rw [yo]
  exact k _ h _ H (Same.refl H) (Rep.sc rfl)
 ·obtain ⟨⟨e,hn,hd⟩,h⟩:=h
  subst e
  obtain ⟨h1,h2⟩:=b6 rs
  unfold Rep at h1 h2
  obtain ⟨a,vs,rfl,sq,rs1⟩:=h1
  obtain ⟨b,ws,rfl,sq',rs2⟩:=h2
  cases rx
  cases ry
  obtain ⟨its,r1,t1,_⟩:=I.tuple sq
  obtain ⟨its',r2,t2,_⟩:=I.tuple sq'
  have hs:its.length=its'.length:=by rw [← r1.length,← r2.length,← Reps.length _ _ rs1,← Reps.length _ _ rs2]
  refine SeqAt.eq_tupleAt (e:=fun _=>true) t1 t2 (by omega) (eqAt_Ds I _ X.A.in1 vs ws its its' hn (by rw [bg];omega) rs1 rs2 r1 r2) ?_
  have z:((List.range (min its.toArray.size its'.toArray.size)).all (fun _=>true) && its.toArray.size == its'.toArray.size)=true:=by simp [hs]
  rw [z]
  exact⟨.bl true,H,I,rfl,k _ h _ H (Same.refl H) (Rep.sc rfl)⟩
 ·obtain ⟨h1,h2⟩:=b6 rs
  unfold Rep at h1 h2
  obtain ⟨a,vs,rfl,_,sq,rs1⟩:=h1
  obtain ⟨b,ws,rfl,_,sq',rs2⟩:=h2
  cases rx
  cases ry
  obtain ⟨its,r1,t1,_⟩:=I.list (SqL.of sq)
  obtain ⟨its',r2,t2,_⟩:=I.list (SqL.of sq')
  rcases h with ⟨⟨e,hn,hd⟩,h⟩ | ⟨ne,h⟩
  ·subst e
   have hs:its.length=its'.length:=by rw [← r1.length,← r2.length,← Reps.length _ _ rs1,← Reps.length _ _ rs2]
   refine SeqAt.eq_listAt (e:=fun _=>true) t1.isList t2.isList (by simp [hs]) (by omega) (eqAt_Ds I _ X.A.in1 vs ws its its' hn (by rw [bg];omega) rs1 rs2 r1 r2) ?_
   rw [gu]
   exact⟨.bl true,H,I,rfl,k _ h _ H (Same.refl H) (Rep.sc rfl)⟩
  ·refine SeqAt.eq_list_lengthsAt t1.isList t2.isList ?_ (by omega) ⟨.bl false,H,I,rfl,k _ h _ H (Same.refl H) (Rep.sc rfl)⟩
   have l1:=r1.length
   have l2:=r2.length
   have l3:=Reps.length _ _ rs1
   have l4:=Reps.length _ _ rs2
   simp only [List.size_toArray,bne_iff_ne,ne_eq]
   omega
def fNe:List D→(D→Prop)→Prop
 | [.int i,.int j],R=>R (.bl (!decide (i=j)))
 | [.str x,.str y],R=>R (.bl (!decide (x=y)))
 | [.bl a,.bl b],R=>R (.bl (!decide (a=b)))
 | _,_=>False
theorem yU {d0:List D} {R:D→Prop} (h:fNe d0 R):(∃ (i:Int) (j:Int),d0=[.int i,.int j]∧R (.bl (!decide (i=j))))∨(∃ (x:Str) (y:Str),d0=[.str x,.str y]∧R (.bl (!decide (x=y))))∨(∃ (a:Bool) (b:Bool),d0=[.bl a,.bl b]∧R (.bl (!decide (a=b)))):=by
 rcases d0 with _ | ⟨a,_ | ⟨b,_ | ⟨c,l⟩⟩⟩
 ·exact False.elim h
 ·cases a<;>exact False.elim h
 ·cases a<;>first | exact False.elim h | (cases b<;>first | exact False.elim h | exact .inl ⟨_,_,rfl,h⟩ | exact .inr (.inl ⟨_,_,rfl,h⟩) | exact .inr (.inr ⟨_,_,rfl,h⟩))
 ·cases a<;>first | exact False.elim h | (cases b<;>exact False.elim h)
theorem o_ne (_:X.A.units + 64 < cLine):OpR X (compareOp .NotEq) fun x y=>aS X.K fNe [x,y]:=by
 intro pins s σ H x y v u Q I rx ry h
 obtain ⟨M,ds,R,m,rs,h,k⟩:=h
 replace h:=yU h
 rcases h with ⟨_,_,rfl,h⟩ | ⟨_,_,rfl,h⟩ | ⟨_,_,rfl,h⟩
 ·obtain ⟨h1,h2⟩:=b6 rs
  cases aO h1
  cases aO h2
  refine xc pins s σ H _ _ v u Q I rx ry ⟨rfl,?_⟩
  rw [u9]
  exact k _ h _ H (Same.refl H) (Rep.sc rfl)
 ·obtain ⟨h1,h2⟩:=b6 rs
  cases bu h1
  cases bu h2
  refine xc pins s σ H _ _ v u Q I rx ry ⟨rfl,?_⟩
  rw [uV]
  exact k _ h _ H (Same.refl H) (Rep.sc rfl)
 ·obtain ⟨h1,h2⟩:=b6 rs
  cases gX h1
  cases gX h2
  refine xc pins s σ H _ _ v u Q I rx ry ⟨rfl,?_⟩
  rw [yo]
  exact k _ h _ H (Same.refl H) (Rep.sc rfl)
def fIs:List D→(D→Prop)→Prop
 | [.bl a,.bl b],R=>R (.bl (decide (a=b)))
 | [.non,.non],R=>R (.bl true)
 | [.tup _,.non],R=>R (.bl false)
 | [.lst _,.non],R=>R (.bl false)
 | [.int _,.non],R=>R (.bl false)
 | [.str _,.non],R=>R (.bl false)
 | [.bl _,.non],R=>R (.bl false)
 | _,_=>False
theorem yy {d0:List D} {R:D→Prop} (h:fIs d0 R):(∃ (a:Bool) (b:Bool),d0=[.bl a,.bl b]∧R (.bl (decide (a=b))))∨(d0=[.non,.non]∧R (.bl true))∨(∃ (z1:List D),d0=[.tup z1,.non]∧R (.bl false))∨(∃ (z1:List D),d0=[.lst z1,.non]∧R (.bl false))∨(∃ (z1:Int),d0=[.int z1,.non]∧R (.bl false))∨(∃ (z1:Str),d0=[.str z1,.non]∧R (.bl false))∨(∃ (z1:Bool),d0=[.bl z1,.non]∧R (.bl false)):=by
 rcases d0 with _ | ⟨a,_ | ⟨b,_ | ⟨c,l⟩⟩⟩
 ·exact False.elim h
 ·cases a<;>exact False.elim h
 ·cases a<;>first | exact False.elim h | (cases b<;>first | exact False.elim h | exact .inl ⟨_,_,rfl,h⟩ | exact .inr (.inl ⟨rfl,h⟩) | exact .inr (.inr (.inl ⟨_,rfl,h⟩)) | exact .inr (.inr (.inr (.inl ⟨_,rfl,h⟩))) | exact .inr (.inr (.inr (.inr (.inl ⟨_,rfl,h⟩)))) | exact .inr (.inr (.inr (.inr (.inr (.inl ⟨_,rfl,h⟩))))) | exact .inr (.inr (.inr (.inr (.inr (.inr ⟨_,rfl,h⟩))))))
 ·cases a<;>first | exact False.elim h | (cases b<;>exact False.elim h)
theorem Aj {i j:Bool} {R:D→Prop}:fIs [.bl i,.bl j] R↔R (.bl (decide (i=j))):=Iff.rfl
theorem ye:OpR X (compareOp .Is) (fun x y H Q=>∃ a b,x=.bl a∧y=.bl b∧Q (.bl (decide (a=b))) H):=by
 intro pins s σ H x y v u Q I rx ry h
 obtain ⟨a,b,rfl,rfl,q⟩:=h
 cases rx
 cases ry
 refine wpAny_is_plain rfl ⟨.bl _,H,I,rfl,?_⟩
 have e:(Value.bool a == Value.bool b)=decide (a=b):=by cases a<;>cases b<;>rfl
 rw [e]
 exact q
theorem o_is:OpR X (compareOp .Is) fun x y=>aS X.K fIs [x,y] :=
  OpR.imp (OpR.or ye yt) fun x y H Q ⟨M,ds,R,m,rs,h,k⟩=>by
    have fin:∀ b,R (.bl b)→Q (.bl b) H:=fun b r=>k _ r _ H (Same.refl H) (Rep.sc rfl)
    replace h:=yy h
    rcases h with ⟨_,_,rfl,h⟩ | ⟨rfl,h⟩ | ⟨_,rfl,h⟩ | ⟨_,rfl,h⟩ | ⟨_,rfl,h⟩ | ⟨_,rfl,h⟩ | ⟨_,rfl,h⟩
    · obtain ⟨h1,h2⟩:=b6 rs
      exact .inl ⟨_,_,gX h1,gX h2,fin _ h⟩
    all_goals first
      | exact h.elim
      | (obtain ⟨h1,h2⟩:=b6 rs
         unfold Rep at h1 h2
         first
           | (subst h1;exact .inr ⟨h2,fin _ h⟩)
           | (obtain ⟨a,vs,e,_⟩:=h1;subst e;exact .inr ⟨h2,fin _ h⟩))
def fIsN:List D→(D→Prop)→Prop
 | [.bl a,.bl b],R=>R (.bl (!decide (a=b)))
 | [.non,.non],R=>R (.bl false)
 | [.tup _,.non],R=>R (.bl true)
 | _,_=>False
theorem wO {i j:Bool} {R:D→Prop}:fIsN [.bl i,.bl j] R↔R (.bl (!decide (i=j))):=Iff.rfl
def tyN:D→String
 | .non=>"NoneType"
 | .bl _=>"bool"
 | .int _=>"int"
 | .str _=>"str"
 | .tup _=>"tuple"
 | .lst _=>"list"
 | .fz _=>"list"
 | .dct _ _=>"dict"
 | .fd _ _=>"dict"
 | .fo _ _ _=>"dict"
def isT (T n:String):Bool:=n == T || (n == "bool" && T == "int")
def lF (T:String):Prop:=∀ (K:PySem.W.Frag) (n:String),n∈["NoneType","bool","int","str","tuple","list","dict"]→PySem.W.kitOne K (.type n) (.type T)=some (isT T n)
theorem xI (d:D):tyN d∈["NoneType","bool","int","str","tuple","list","dict"]:=by cases d<;>simp [tyN]
theorem Ba {pins:List (Addr×Obj)} {σ:L2.St} {H:Hp} {s:Shared} {A:Around} {E:Value→Shared→Prop} {M:Addr→Prop} {d:D} {v:V} {u:Value} {T:String} {Q:Value→Shared→Prop} (I:L2.Inv X pins σ H s) (r:Rep X.K M H d v) (ru:RelV v u) (ht:lF T)
  (h:∀ tk,Q (.bool (isT T (tyN d))) { s with toks:=tk }):wpAny (model X.prog X.w) A (call (.builtin "isinstance") [u,.type T]) Q E s:=by
 have e:=ht X.K (tyN d) (xI d)
 cases d with
 | non=>unfold Rep at r;subst r;exact cW I ru (.non) e h
 | bl b=>unfold Rep at r;subst r;exact cW I ru (.bl b) e h
 | int b=>unfold Rep at r;subst r;exact cW I ru (.int b) e h
 | str b=>unfold Rep at r;subst r;exact cW I ru (.str b) e h
 | tup xs =>
  unfold Rep at r
  obtain ⟨a,vs,rfl,sq,_⟩:=r
  cases ru
  obtain ⟨its,_,⟨o,h1,h2,_⟩,_⟩:=I.tuple sq
  exact PySem.W.kia_one PySem.W.kitx_tuple I.kIn ⟨o,h1,h2⟩ e (fun z=>nomatch z) h
 | lst xs=>unfold Rep at r;obtain ⟨a,vs,rfl,_,sq,_⟩:=r;exact cW I ru (.lst sq) e h
 | fz xs =>
  unfold Rep at r
  obtain ⟨a,vs,rfl,sq,_⟩:=r
  cases ru
  obtain ⟨its,_,⟨o,n,h1,h2,_⟩,_⟩:=I.list sq.seq
  exact PySem.W.kia_one PySem.W.kitx_list I.kIn ⟨o,h1,h2⟩ e (fun z=>nomatch z) h
 | dct ks xs=>unfold Rep at r;obtain ⟨a,vs,rfl,_,sq,_⟩:=r;exact cW I ru (.dK sq) e h
 | fd ks xs =>
  unfold Rep at r
  obtain ⟨a,vs,o,rfl,sq,_⟩:=r
  cases ru
  obtain ⟨_,_,va,_,da⟩:=fP I.hok (.inr ⟨o,sq⟩)
  obtain ⟨o2,h1,h2⟩:=da.typeIs
  exact PySem.W.kia_one PySem.W.kitx_dict I.kIn ⟨o2,h1,h2⟩ e (fun z=>nomatch z) h
 | fo o ks xs =>
  unfold Rep at r
  obtain ⟨a,vs,rfl,sq,_⟩:=r
  cases ru
  obtain ⟨_,_,va,_,da⟩:=fP I.hok (.inr ⟨o,sq⟩)
  obtain ⟨o2,h1,h2⟩:=da.typeIs
  exact PySem.W.kia_one PySem.W.kitx_dict I.kIn ⟨o2,h1,h2⟩ e (fun z=>nomatch z) h
def dIsi (T:String) (t:TDE):TDE:=fun δ R=>t δ (wd fun x δ1=>R (.d (.bl (isT T (tyN x)))) δ1)
def rIsi (K:PySem.W.Frag) (T:String):List V→Hp→VK→Prop:=fun xs H Q=>∃ x M d,xs=[x,.ty T]∧Rep K M H d x∧Q (.bl (isT T (tyN d))) H
theorem t5 {T:String} (ht:lF T):cc X (.builtin "isinstance") (rIsi X.K T):=by
 intro pins s σ H xs us Q I r h
 obtain ⟨x,M,d,rfl,rx,q⟩:=h
 obtain ⟨u,w',rfl,ru,rw'⟩:=zf r
 cases rw'
 exact Ba I rx ru ht fun tk=>⟨.bl _,H,I.tok _,rfl,q⟩
theorem iL {T:Str} {n:String} {a:Expr} {ta:TDE} {p p2 pos:Pos} (ht:lF n) (hg:Gl X "isinstance") (hm:X.mg "isinstance"=none) (hgT:Gl X T) (hmT:X.mg T=none) (hvT:bootBuiltins T=some (.type n)) (ha:DE X a ta)
  (hnT:T≠"__name__":=by decide) (hdT:(T == ("__debug__":Str))=false:=by decide)
  (he:starEach [a,.Name T p2] X.env=(false,eval a X.env) :: starEach [.Name T p2] X.env:=by rfl) (he2:starEach [.Name T p2] X.env=(false,eval (.Name T p2) X.env) :: starEach [] X.env:=by rfl) (hpl:(backTo pos (starEach [.Name T p2] X.env)).any (·.1)=false:=by rfl) :
  DE X (.Call (.Name "isinstance" p) [a,.Name T p2] [] pos) (dIsi n ta) :=
 PE.imp (jq (t5 ht) hg hm jS (ba ha (ba (xR (v:=.ty n) hgT hmT hvT rfl hnT hdT) dy he2) he) (by decide) (by decide) he hpl) fun σ H Q ⟨G,δ,P,R,s,h,k,_⟩=>up.mk s h fun d δ1 h1 v H1 s1=>by
  obtain ⟨A,q⟩:=id s1
  exact⟨v,_,d,rfl,q.pnd (d,v) (by simp),k _ δ1 h1 _ H1 ((s1.sub (P':=P) fun p hp=>List.mem_cons_of_mem _ hp).sc rfl)⟩
theorem zO:lF "int":=fun K n hn=>by
 simp only [List.mem_cons,List.not_mem_nil,or_false] at hn
 rcases hn with rfl | rfl | rfl | rfl | rfl | rfl | rfl<;>with_unfolding_all rfl
theorem xV:lF "bool":=fun K n hn=>by
 simp only [List.mem_cons,List.not_mem_nil,or_false] at hn
 rcases hn with rfl | rfl | rfl | rfl | rfl | rfl | rfl<;>with_unfolding_all rfl
theorem jx:lF "tuple":=fun K n hn=>by
 simp only [List.mem_cons,List.not_mem_nil,or_false] at hn
 rcases hn with rfl | rfl | rfl | rfl | rfl | rfl | rfl<;>with_unfolding_all rfl
theorem wQ:lF "dict":=fun K n hn=>by
 simp only [List.mem_cons,List.not_mem_nil,or_false] at hn
 rcases hn with rfl | rfl | rfl | rfl | rfl | rfl | rfl<;>with_unfolding_all rfl
end
end DL
namespace DL
open PySem PySem.Spec PyProof.Rows L2
section
variable {K:PySem.W.Frag} {G:Gf} {A A':Addr→Prop} {δ:List Sl} {P P':List (D×V)} {σ:L2.St} {H H':Hp}
theorem Sx.addA {p:Addr} (s:Sx K G A δ P σ H) (hn:H p=none) (hs:Same H H') (hp:H' p≠none):Sx K G (fun b=>A b∨b=p) δ P σ H':=by
 have x:=s.same hs
 have hM:∀ b,(G.M0 b∨(A b∨b=p))→(G.M0 b∨A b)∨H b=none:=fun b h=>by
  rcases h with h | h | h
  ·exact .inl (.inl h)
  ·exact .inl (.inr h)
  ·subst h;exact .inr hn
 have up:∀ d v,Rep K (fun b=>G.M0 b∨A b) H d v→Rep K (fun b=>G.M0 b∨(A b∨b=p)) H' d v:=fun d v r=>Rep.kp (Kp.of_same hs) _ _ (Rep.more hM _ _ r)
 have h0:G.H0 p=none:=by
  cases q:G.H0 p with
  | none=>rfl
  | some o=>exact absurd hn (s.stay p (by rw [q];exact fun z=>nomatch z))
 refine⟨x.old,x.stay,x.m0,x.pm,fun b h=>h.elim (s.new b) fun e=>.inl (by rw [e];exact h0),fun b h=>h.elim (x.thr b) fun e=>by rw [e];exact hp,s.len,fun j d' e=>?_,fun j b d' e=>?_,s.inj,fun q hq=>up _ _ (s.pnd q hq)⟩
 ·obtain ⟨v,q,r⟩:=s.dat j d' e
  exact⟨v,q,up _ _ r⟩
 ·obtain ⟨q,r,o⟩:=s.own j b d' e
  refine⟨q,.inl r,bA.kp (Kp.of_same hs) ?_ (bA.more hM o)⟩
  cases z:H b with
  | none=>exact absurd z (s.thr b r)
  | some o'=>exact hs b o' z
theorem Sx.subA (s:Sx K G A δ P σ H) (hA:∀ b,A' b→A b) (ho:∀ (i:Nat) a d,δ[i]?=some (.own a d)→A' a):Sx K G A' δ P σ H:=by
 have hM:∀ b,(G.M0 b∨A' b)→(G.M0 b∨A b)∨H b=none:=fun b h=>.inl (h.elim .inl fun z=>.inr (hA b z))
 exact⟨s.old,s.stay,s.m0,s.pm,fun b h=>s.new b (hA b h),fun b h=>s.thr b (hA b h),s.len,fun i d e=>let ⟨v,q,r⟩:=s.dat i d e;⟨v,q,Rep.more hM _ _ r⟩,fun i a d e=>let ⟨q,_,o⟩:=s.own i a d e;⟨q,ho i a d e,bA.more hM o⟩,s.inj,
  fun p hp=>Rep.more hM _ _ (s.pnd p hp)⟩
theorem Sx.poke {p:Addr} {vs ws:List V} (s:Sx K G A δ P σ H) (hp:A p) (hv:H p=some (.lst vs)) (hno:∀ (i:Nat) d,δ[i]?≠some (.own p d)):Sx K G A δ P σ (upd H p (.lst ws)):=by
 have hk:∀ b o,b≠p→H b=some o→upd H p (.lst ws) b=some o:=fun b o n e=>by rw [aE n];exact e
 have kp:Kp (fun b=>G.M0 b∨A b) H (upd H p (.lst ws)):=⟨fun b o e n=>hk b o (fun z=>n (.inr (by rw [z];exact hp))) e,fun b xs e=>hk b _ (fun z=>by rw [z,hv] at e;cases e) e,fun b o u e=>hk b _ (fun z=>by rw [z,hv] at e;cases e) e⟩
 have stay:∀ b,H b≠none→upd H p (.lst ws) b≠none:=fun b e=>by
  by_cases z:b=p
  ·rw [z,aq];exact fun z=>nomatch z
  ·rw [aE z];exact e
 have na:∀ b o,G.H0 b=some o→¬ G.Pm b→b≠p:=fun b o e n z=>(s.new p hp).elim (fun q=>by rw [z] at e;rw [e] at q;cases q) fun q=>n (by rw [z];exact q)
 refine⟨fun b o e n=>hk b o (na b o e n) (s.old b o e n),fun b e=>stay b (s.stay b e),s.m0,s.pm,s.new,fun b e=>stay b (s.thr b e),s.len,fun i d e=>let ⟨v,q,r⟩:=s.dat i d e;⟨v,q,Rep.kp kp _ _ r⟩,fun i a d e=>?_,s.inj,fun q hq=>Rep.kp kp _ _ (s.pnd q hq)⟩
 obtain ⟨q,r,o⟩:=s.own i a d e
 have ne:a≠p:=fun z=>by subst z;exact hno i d e
 exact⟨q,r,bA.kp kp (by rw [aE ne]) o⟩
end
def capO:Option Sl→Sl
 | some (.dat d)=>.dat d
 | _=>.no
def capL (caps:List (Nat×Str)) (δ:En):En:=caps.map fun p=>capO δ[p.1]?
def oS:Option D→Sl
 | none=>.no
 | some d=>.dat d
def allT:Nat→(List Sl→Prop)→Prop
 | 0,p=>p []
 | n + 1,p=>∀ t:Option D,allT n fun ts=>p (oS t :: ts)
def okT:Nat→En→En→Prop
 | 0,δ,c=>δ=c
 | n + 1,.dat _ :: r,c=>okT n r c
 | _ + 1,_,_=>False
abbrev TDC:=En→(List D→En→Prop)→Prop
def vS (src:TDC) (nt:Nat) (caps:List (Nat×Str)) (g:TDG) (tc:TDT) (te:TDE):TDE:=fun δ R=>src δ fun xs δ1=>xs.length≤9000∧∃ f:D→Option D,
 (∀ x∈xs,allT nt fun ts=>g x (ts++capL caps δ1) fun δ2=>tc δ2 fun b δ3=>if b=true then te δ3 (wd fun y δ4=>okT nt δ4 (capL caps δ1)∧f x=some y) else okT nt δ3 (capL caps δ1)∧f x=none)∧R (.d (.lst (xs.filterMap f))) δ1
theorem mM:∀ {n:Nat} {p:List Sl→Prop},allT n p→∀ ts:List (Option D),ts.length=n→p (ts.map oS)
 | 0,p,h,ts,e=>by rw [List.length_eq_zero_iff.mp e];exact h
 | n + 1,p,h,[],e=>by cases e
 | n + 1,p,h,t :: ts,e=>mM (h t) ts (Nat.succ.inj e)
theorem lP:∀ {n:Nat} {δ c:En},okT n δ c→∃ ts:List (Option D),ts.length=n∧δ=ts.map oS++c
 | 0,δ,c,h=>⟨[],rfl,h⟩
 | n + 1,[],c,h=>h.elim
 | n + 1,.dat d :: r,c,h=>by
  obtain ⟨ts,e,q⟩:=lP (n:=n) (δ:=r) h
  exact⟨some d :: ts,by rw [List.length_cons,e],by rw [q];rfl⟩
 | n + 1,.no :: r,c,h=>h.elim
 | n + 1,.own _ _ :: r,c,h=>h.elim
section
variable {K:PySem.W.Frag} {G:Gf} {δ:List Sl} {P:List (D×V)} {σ:L2.St}
theorem sN {caps:List (Nat×Str)} {i:Nat} {d:D} (e:(capL caps δ)[i]?=some (.dat d)):∃ p,caps[i]?=some p∧δ[p.1]?=some (.dat d):=by
 unfold capL at e
 rw [List.getElem?_map] at e
 cases hc:caps[i]? with
 | none=>rw [hc] at e;cases e
 | some p =>
  rw [hc] at e
  refine⟨p,rfl,?_⟩
  have e:=Option.some.inj e
  cases q:δ[p.1]? with
  | none=>simp [q,capO] at e
  | some z =>
   cases z with
   | dat d'=>simp only [q,capO] at e;cases e;rfl
   | no=>simp [q,capO] at e
   | own _ _=>simp [q,capO] at e
theorem je {caps:List (Nat×Str)} {i:Nat} {a:Addr} {d:D} (e:(capL caps δ)[i]?=some (.own a d)):False:=by
 unfold capL at e
 rw [List.getElem?_map] at e
 cases hc:caps[i]? with
 | none=>rw [hc] at e;cases e
 | some p =>
  rw [hc] at e
  have e:=Option.some.inj e
  cases q:δ[p.1]? with
  | none=>simp [q,capO] at e
  | some z=>cases z<;>simp [q,capO] at e
theorem Bk {A:Addr→Prop} {nt:Nat} {caps:List (Nat×Str)} {H:Hp} (s:Sx K G A δ P σ H):Sx K ⟨fun b=>G.M0 b∨A b,H,fun _=>False⟩ (fun _=>False) ((List.replicate nt none).map oS++capL caps δ) [] (capS nt caps σ) H:=by
 have hM:∀ b,((G.M0 b∨A b)∨False)→(G.M0 b∨A b)∨H b=none:=fun b h=>h.elim .inl fun z=>z.elim
 have hr:(List.replicate nt none).map oS=List.replicate nt Sl.no:=by rw [List.map_replicate];rfl
 rw [hr]
 refine⟨fun b o e _=>e,fun b e=>e,s.mem,fun b h=>h.elim,fun b h=>h.elim,fun b h=>h.elim,?_,fun i d e=>?_,fun i a d e=>?_,fun i j a d e h1 _=>?_,fun p hp=>(nomatch hp)⟩
 ·unfold capL capS
  rw [List.length_append,List.length_append,List.length_replicate,List.length_replicate,List.length_map,List.length_map]
 ·by_cases hi:i < nt
  ·rw [List.getElem?_append_left (by rw [List.length_replicate];exact hi),List.getElem?_replicate,if_pos hi] at e
   cases e
  ·rw [List.getElem?_append_right (by rw [List.length_replicate];omega),List.length_replicate] at e
   obtain ⟨p,hp,hd⟩:=sN e
   obtain ⟨v,q,r⟩:=s.dat _ _ hd
   refine⟨v,?_,Rep.more hM _ _ r⟩
   unfold capS
   rw [List.getElem?_append_right (by rw [List.length_replicate];omega),List.length_replicate,List.getElem?_map,hp]
   show some ((σ[p.1]?).join)=_
   rw [q]
   rfl
 all_goals
  exfalso
 ·by_cases hi:i < nt
  ·rw [List.getElem?_append_left (by rw [List.length_replicate];exact hi),List.getElem?_replicate,if_pos hi] at e
   cases e
  ·rw [List.getElem?_append_right (by rw [List.length_replicate];omega)] at e
   exact je e
 ·by_cases hi:i < nt
  ·rw [List.getElem?_append_left (by rw [List.length_replicate];exact hi),List.getElem?_replicate,if_pos hi] at h1
   cases h1
  ·rw [List.getElem?_append_right (by rw [List.length_replicate];omega)] at h1
   exact je h1
theorem u7 {ts:List (Option D)} {caps:List (Nat×Str)} {i:Nat} {a:Addr} {d:D} (e:(ts.map oS++capL caps δ)[i]?=some (.own a d)):False:=by
 by_cases hi:i < ts.length
 ·rw [List.getElem?_append_left (by rw [List.length_map];exact hi),List.getElem?_map] at e
  cases hc:ts[i]? with
  | none=>rw [hc] at e;cases e
  | some o =>
   rw [hc] at e
   cases o<;>cases e
 ·rw [List.getElem?_append_right (by rw [List.length_map];omega)] at e
  exact je e
theorem re_S {M:Addr→Prop} {A2:Addr→Prop} {ts:List (Option D)} {caps:List (Nat×Str)} {H H5 H6:Hp} {P2:List (D×V)} {σ2:L2.St} (s:Sx K ⟨M,H,fun _=>False⟩ A2 (ts.map oS++capL caps δ) P2 σ2 H5) (k:Kp M H5 H6) (hm:∀ b,M b→H6 b≠none) :
  Sx K ⟨M,H6,fun _=>False⟩ (fun _=>False) (ts.map oS++capL caps δ) [] σ2 H6:=by
 have hM:∀ b,(M b∨False)→(M b∨A2 b)∨H5 b=none:=fun b h=>.inl (h.elim .inl fun z=>z.elim)
 have k':Kp (fun b=>M b∨False) H5 H6:=⟨fun b o e n=>k.un b o e fun z=>n (.inl z),k.tu,k.fr⟩
 exact⟨fun b o e _=>e,fun b e=>e,hm,fun b h=>h.elim,fun b h=>h.elim,fun b h=>h.elim,s.len,fun i d e=>let ⟨v,q,r⟩:=s.dat i d e;⟨v,q,Rep.kp k' _ _ (Rep.more hM _ _ r)⟩,fun i a d e=>(u7 e).elim,
  fun i j a d e h1 _=>(u7 h1).elim,fun p hp=>(nomatch hp)⟩
theorem iC {xs:List D} {f:D→Option D} {i:Nat} {x:D} (h:xs[i]?=some x):(xs.take (i + 1)).filterMap f=(xs.take i).filterMap f++(match f x with | some y=>[y] | none=>[]):=by
 rw [List.take_add_one,h,List.filterMap_append]
 cases e:f x<;>simp [e]
theorem iQ {J:It} {xs:List D} {f:D→Option D} {nt:Nat} {caps:List (Nat×Str)} {g:TDG} {tc:TDT} {te:TDE} {H1:Hp} {Q:VK} (s:S K G δ P σ H1) (hz:xs.length≤9000)
  (hgo:∀ A i H,Sx K G A δ P σ H→i < xs.length→J.go i H) (hst:∀ A H,Sx K G A δ P σ H→J.stop xs.length H)
  (hyl:∀ A i x H H2,Sx K G A δ P σ H→i < xs.length→J.yld i H x H2→Same H H2∧∃ d,xs[i]?=some d∧Rep K (fun b=>G.M0 b∨A b) H2 d x)
  (hf:∀ x∈xs,allT nt fun ts=>g x (ts++capL caps δ) fun δ2=>tc δ2 fun b δ3=>if b=true then te δ3 (wd fun y δ4=>okT nt δ4 (capL caps δ)∧f x=some y) else okT nt δ3 (capL caps δ)∧f x=none)
  (p:Addr) (hp:H1 p=none) (k:∀ (A:Addr→Prop) acc H',¬ (G.M0 p∨A p)→(∀ (i:Nat) a d,δ[i]?=some (.own a d)→A a)→Sx K G (fun b=>A b∨b=p) δ P σ H'→H' p=some (.lst acc)→Reps K (fun b=>G.M0 b∨(A b∨b=p)) H' (xs.filterMap f) acc→Q (.ref p) H') :
  ∃ W:Nat→Nat→List V→L2.St→Hp→Prop,(∃ m,W 0 m [] (capS nt caps σ) (upd H1 p (.lst [])))∧∀ i m acc σ' H',W i m acc σ' H'→(J.stop i H'∧Q (.ref p) H')∨(J.go i H'∧∀ x H2,J.yld i H' x H2 →
   upG K g x σ' H2 fun σ2 H3=>upT K tc σ2 H3 fun b H4=>if b=true then up K te σ2 H4 fun y H5=>H5 p=some (.lst acc)∧acc.length < sizeLine∧∃ m',m' < m∧W (i + 1) m' (acc++[y]) σ2 (upd H5 p (.lst (acc++[y]))) else ∃ m',m' < m∧W (i + 1) m' acc σ2 H4):=by
 obtain ⟨A0,x0⟩:=s
 have hA0:¬ (G.M0 p∨A0 p):=fun z=>x0.mem p z hp
 have hno:∀ (i:Nat) d,δ[i]?≠some (.own p d):=fun i d e=>hA0 (.inr (x0.own i p d e).2.1)
 have x1:=x0.addA hp (aD hp (.lst [])) (by rw [aq];exact fun z=>nomatch z)
 refine⟨fun i m acc σ' H'=>i≤xs.length∧m=xs.length - i∧acc.length≤i∧H' p=some (.lst acc)∧Sx K G (fun b=>A0 b∨b=p) δ P σ H'∧Reps K (fun b=>G.M0 b∨(A0 b∨b=p)) H' ((xs.take i).filterMap f) acc ∧
  ∃ ts:List (Option D),ts.length=nt∧Sx K ⟨fun b=>G.M0 b∨(A0 b∨b=p),H',fun _=>False⟩ (fun _=>False) (ts.map oS++capL caps δ) [] σ' H',⟨xs.length,Nat.zero_le _,rfl,Nat.le_refl _,aq,x1,by rw [List.take_zero];exact Reps.nil,List.replicate nt none,List.length_replicate,Bk x1⟩,?_⟩
 rintro i m acc σ' H' ⟨hi,rfl,hal,hac,x,rs,ts,hts,sx⟩
 by_cases hlt:i < xs.length
 ·refine .inr ⟨hgo _ i H' x hlt,fun v H2 hy=>?_⟩
  obtain ⟨sm0,d,hd,rd⟩:=hyl _ i v H' H2 x hlt hy
  replace sx:=re_S sx (Kp.of_same sm0) (x.same sm0).mem
  replace x:=x.same sm0
  replace hac:=sm0 _ _ hac
  replace rs:=Reps.kp (Kp.of_same sm0) _ _ rs
  clear sm0 hy
  have hmem:d∈xs:=List.mem_of_getElem? hd
  refine⟨_,ts.map oS++capL caps δ,[],d,_,⟨_,sx.push (Rep.more (fun b z=>.inl (z.elim id fun q=>q.elim)) _ _ rd)⟩,mM (hf d hmem) ts hts,fun δ2 h2 σ2 H3 s2=>?_⟩
  refine⟨_,_,[],_,s2,h2,fun b δ3 h3 H4 s3=>?_⟩
  have fmS:=iC (f:=f) hd
  have hM1:∀ b,(G.M0 b∨(A0 b∨b=p))→H2 b≠none:=x.mem
  cases b with
  | false =>
   obtain ⟨ok3,hn⟩:=h3
   rw [hn,List.append_nil] at fmS
   obtain ⟨ts3,hts3,e3⟩:=lP ok3
   subst e3
   obtain ⟨A3,y3⟩:=s3
   have sm:Same H2 H4:=fun b o e=>y3.old b o e id
   have x4:=x.same sm
   exact⟨xs.length - (i + 1),by omega,hlt,rfl,by omega,sm _ _ hac,x4,by rw [fmS];exact Reps.kp (Kp.of_same sm) _ _ rs,ts3,hts3,re_S y3 Kp.refl x4.mem⟩
  | true =>
   refine up.mk (P:=[]) s3 h3 fun y δ4 h4 yv H5 s4=>?_
   obtain ⟨ok4,hy⟩:=h4
   rw [hy] at fmS
   obtain ⟨ts4,hts4,e4⟩:=lP ok4
   subst e4
   obtain ⟨A4,y4⟩:=s4
   have sm:Same H2 H5:=fun b o e=>y4.old b o e id
   have x5:=x.same sm
   have hac5:=sm _ _ hac
   have ry:Rep K (fun b=>G.M0 b∨(A0 b∨b=p)) H5 y yv:=Rep.more (fun b z=>.inl (.inl z)) _ _ (y4.pnd (y,yv) (by simp))
   have x6:=x5.poke (p:=p) (ws:=acc++[yv]) (.inr rfl) hac5 hno
   have kp:Kp (fun b=>G.M0 b∨(A0 b∨b=p)) H5 (upd H5 p (.lst (acc++[yv]))):=by
    have hk:∀ b o,b≠p→H5 b=some o→upd H5 p (.lst (acc++[yv])) b=some o:=fun b o n e=>by rw [aE n];exact e
    exact⟨fun b o e n=>hk b o (fun z=>n (.inr (.inr z))) e,fun b xs e=>hk b _ (fun z=>by rw [z,hac5] at e;cases e) e,fun b o u e=>hk b _ (fun z=>by rw [z,hac5] at e;cases e) e⟩
   refine⟨hac5,Nat.lt_of_le_of_lt (Nat.le_trans hal hi) (gU hz),xs.length - (i + 1),by omega,hlt,rfl,by rw [List.length_append,List.length_singleton];omega,aq,x6,?_,ts4,hts4,re_S y4 kp x6.mem⟩
   rw [fmS]
   exact Reps.kp kp _ _ (Reps.append _ _ _ _ (Reps.kp (Kp.of_same sm) _ _ rs) (Reps.one ry))
 ·have e:i=xs.length:=by omega
  subst e
  rw [List.take_length] at rs
  exact .inl ⟨hst _ H' x,k A0 acc H' hA0 (fun i a d e=>(x0.own i a d e).2.1) x hac rs⟩
theorem jQ {J:It} {xs:List D} {f:D→Option D} {nt:Nat} {caps:List (Nat×Str)} {g:TDG} {tc:TDT} {te:TDE} {H1:Hp} {Q:VK} (s:S K G δ P σ H1) (hz:xs.length≤9000)
  (hgo:∀ A i H,Sx K G A δ P σ H→i < xs.length→J.go i H) (hst:∀ A H,Sx K G A δ P σ H→J.stop xs.length H)
  (hyl:∀ A i x H H2,Sx K G A δ P σ H→i < xs.length→J.yld i H x H2→Same H H2∧∃ d,xs[i]?=some d∧Rep K (fun b=>G.M0 b∨A b) H2 d x)
  (hf:∀ x∈xs,allT nt fun ts=>g x (ts++capL caps δ) fun δ2=>tc δ2 fun b δ3=>if b=true then te δ3 (wd fun y δ4=>okT nt δ4 (capL caps δ)∧f x=some y) else okT nt δ3 (capL caps δ)∧f x=none)
  (k:∀ v H',S K G δ ((.lst (xs.filterMap f),v) :: P) σ H'→Q v H') (p:Addr) (hp:H1 p=none) :
  ∃ W:Nat→Nat→List V→L2.St→Hp→Prop,(∃ m,W 0 m [] (capS nt caps σ) (upd H1 p (.lst [])))∧∀ i m acc σ' H',W i m acc σ' H'→(J.stop i H'∧Q (.ref p) H')∨(J.go i H'∧∀ x H2,J.yld i H' x H2 →
   upG K g x σ' H2 fun σ2 H3=>upT K tc σ2 H3 fun b H4=>if b=true then up K te σ2 H4 fun y H5=>H5 p=some (.lst acc)∧acc.length < sizeLine∧∃ m',m' < m∧W (i + 1) m' (acc++[y]) σ2 (upd H5 p (.lst (acc++[y]))) else ∃ m',m' < m∧W (i + 1) m' acc σ2 H4) :=
 iQ s hz hgo hst hyl hf p hp fun A acc H' hA ho x hac rs=>k (.ref p) H' ⟨A,(x.subA (fun b z=>.inl z) ho).push (by
  unfold Rep
  exact⟨p,acc,rfl,hA,hac,Reps.more (fun b z=>.inl (z.elim .inl fun q=>.inr (.inl q))) _ _ rs⟩)⟩
end
def Ab (t:TDE):TDC:=fun δ R=>t δ (wd fun d δ1=>∃ xs,d=.lst xs∧R xs δ1)
def yF (t:TDE):TDC:=fun δ R=>t δ (wd fun d δ1=>∃ xs,d=.tup xs∧R xs δ1)
def yD (t:TDA):TDC:=fun δ R=>t δ fun ds δ1=>∃ j:Int,ds=[.int j]∧-(2 ^ 62)≤j∧j < 2 ^ 62∧R ((List.range j.toNat).map fun (i:Nat)=>D.int (i:Int)) δ1
def CI (X:Cx) (tg it:Expr) (src:TDC):Prop:=∃ wi,PI X tg it wi∧∀ (G:Gf) (δ:En) (P:List (D×V)) (σ:L2.St) (H:Hp) (R:List D→En→Prop) (Q:It→Hp→Prop),S X.K G δ P σ H→src δ R →
  (∀ xs δ1,R xs δ1→∀ (J:It) (P1:List (D×V)) (H1:Hp),(∀ q∈P,q∈P1)→S X.K G δ1 P1 σ H1→(∀ A δ σ i H,Sx X.K G A δ P1 σ H→i < xs.length→J.go i H)→(∀ A δ σ H,Sx X.K G A δ P1 σ H→J.stop xs.length H) →
    (∀ A δ σ i x H H2,Sx X.K G A δ P1 σ H→i < xs.length→J.yld i H x H2→Same H H2∧∃ d,xs[i]?=some d∧Rep X.K (fun b=>G.M0 b∨A b) H2 d x)→Q J H1)→wi σ H Q
section
variable {X:Cx} {tg e:Expr} {te:TDE} {ta:TDA}
theorem fY (h:DE X e te):CI X tg e (Ab te):=⟨_,qO h,fun G δ P σ H R Q s hs k=>up.mk s hs fun d δ1 h1 v H1 s1=>by
 obtain ⟨xs,e,r⟩:=h1
 subst e
 have hat:∀ A δ σ H,Sx X.K G A δ ((.lst xs,v) :: P) σ H→∃ a vs,v=.ref a∧H a=some (.lst vs)∧Reps X.K (fun b=>G.M0 b∨A b) H xs vs:=fun A δ σ H x=>by
  have q:=x.pnd (.lst xs,v) (by simp)
  unfold Rep at q
  obtain ⟨a,vs,e,_,l,r⟩:=q
  exact⟨a,vs,e,l,r⟩
 obtain ⟨A1,x1⟩:=id s1
 obtain ⟨a,vs0,rfl,l0,_⟩:=hat _ _ _ _ x1
 refine⟨a,rfl,⟨vs0,SqL.of l0⟩,k xs δ1 r _ _ H1 (fun q hq=>by simp [hq]) s1 (fun A δ σ i H x hi=>?_) (fun A δ σ H x=>?_) fun A δ σ i y H H2 x hi hy=>?_⟩
 ·obtain ⟨b,vs,e,l,r⟩:=hat _ _ _ _ x
  cases e
  obtain ⟨w',hw,_⟩:=Reps.get _ _ r i xs[i] (by simp [hi])
  exact⟨vs,w',SqL.of l,hw⟩
 ·obtain ⟨b,vs,e,l,r⟩:=hat _ _ _ _ x
  cases e
  exact⟨vs,SqL.of l,by rw [Reps.length _ _ r];exact Nat.le_refl _⟩
 ·obtain ⟨b,vs,e,l,r⟩:=hat _ _ _ _ x
  cases e
  obtain ⟨e,hy⟩:=hy
  obtain ⟨w',hw,rw'⟩:=Reps.get _ _ r i xs[i] (by simp [hi])
  have z:=hy vs (SqL.of l)
  rw [hw] at z
  cases z
  subst e
  exact⟨Same.refl _,xs[i],by simp [hi],rw'⟩⟩
theorem uO (h:DE X e te):CI X tg e (yF te):=⟨_,vm h,fun G δ P σ H R Q s hs k=>up.mk s hs fun d δ1 h1 v H1 s1=>by
 obtain ⟨xs,e,r⟩:=h1
 subst e
 have hat:∀ A δ σ H,Sx X.K G A δ ((.tup xs,v) :: P) σ H→∃ a vs,v=.ref a∧SqT X.K H a vs∧Reps X.K (fun b=>G.M0 b∨A b) H xs vs:=fun A δ σ H x=>by
  have q:=x.pnd (.tup xs,v) (by simp)
  unfold Rep at q
  exact q
 obtain ⟨A1,x1⟩:=id s1
 obtain ⟨a,vs0,rfl,l0,_⟩:=hat _ _ _ _ x1
 refine⟨a,rfl,⟨vs0,l0⟩,k xs δ1 r _ _ H1 (fun q hq=>by simp [hq]) s1 (fun A δ σ i H x hi=>?_) (fun A δ σ H x=>?_) fun A δ σ i y H H2 x hi hy=>?_⟩
 ·obtain ⟨b,vs,e,l,r⟩:=hat _ _ _ _ x
  cases e
  obtain ⟨w',hw,_⟩:=Reps.get _ _ r i xs[i] (by simp [hi])
  exact⟨vs,w',l,hw⟩
 ·obtain ⟨b,vs,e,l,r⟩:=hat _ _ _ _ x
  cases e
  exact⟨vs,l,by rw [Reps.length _ _ r];exact Nat.le_refl _⟩
 ·obtain ⟨b,vs,e,l,r⟩:=hat _ _ _ _ x
  cases e
  obtain ⟨e,hy⟩:=hy
  obtain ⟨w',hw,rw'⟩:=Reps.get _ _ r i xs[i] (by simp [hi])
  have z:=hy vs l
  rw [hw] at z
  cases z
  subst e
  exact⟨Same.refl _,xs[i],by simp [hi],rw'⟩⟩
theorem nT {a:Expr} {p pos:Pos} (hg:Gl X "range") (hm:X.mg "range"=none) (ha:DA X [a] ta) (hs:starEach [a] X.env=[(false,eval a X.env)]:=by rfl):CI X tg (.Call (.Name "range" p) [a] [] pos) (yD ta) :=
 ⟨_,kO hg hm ha hs,fun G δ P σ H R Q s hs k=>⟨G,δ,P,_,s,hs,fun ds δ1 h1 vs H1 hl s1=>by
  obtain ⟨j,e,h1,h2,r⟩:=h1
  subst e
  match vs,hl with
  | [v],_ =>
   have q:v=.int j:=by
    obtain ⟨A,x⟩:=s1
    exact aO (x.pnd (.int j,v) (by simp))
   subst q
   refine⟨j,rfl,h1,h2,k _ δ1 r _ P H1 (fun q hq=>hq) (s1.sub fun p hp=>by simp [hp]) (fun A δ σ i H x hi=>?_) (fun A δ σ H x=>?_) fun A δ σ i y H H2 x hi hy=>?_⟩
   ·rw [List.length_map,List.length_range] at hi
    exact hi
   ·rw [List.length_map,List.length_range]
    exact Nat.le_refl _
   ·rw [List.length_map,List.length_range] at hi
    obtain ⟨e,hy⟩:=hy
    subst e
    refine⟨Same.refl _,.int i,by rw [List.getElem?_map,List.getElem?_range hi];rfl,?_⟩
    unfold Rep
    rw [hy,Int.zero_add]⟩⟩
def DF (X:Cx) (ifs:List Expr) (t:TDT):Prop:=PF X ifs (upT X.K t)
theorem kR:DF X [] (fun δ R=>R true δ):=fun pins s σ H Q I ⟨G,δ,P,R,s',h,k⟩=>zW pins s σ H Q I (k true δ h H s')
theorem ft {c:Expr} {t:TDT} (h:DT X c t):DF X [c] t:=zn h
theorem dk {elt tgt iter:Expr} {ifs:List Expr} {scope:Scope} {pos:Pos} {src:TDC} {cl:List (Str×Addr)} (tn:List Str) (caps:List (Nat×Str)) {g:TDG} {tc:TDT}
  (hcalm:X.calm=true) (hclos:closureFor scope X.env=pure cl) (hcell:∀ y∈scope.names,y.2≠.cell) (hkind:scope.kind=.function) (hnames:∀ y∈scope.names,y.2=.local→scope.names.lookup y.1=some .local)
  (hcl:∀ x c,cl.lookup x=some c→X.env.cells.lookup x=some c) (hhas:∀ x,((relabel scope X.env).names.lookup x=some .cell∨(relabel scope X.env).names.lookup x=some .free)→∃ c,cl.lookup x=some c)
  (hcap:∀ p∈caps,X.N[p.1]?=some p.2∧X.env.scope.names.lookup p.2=some .cell∧((relabel scope X.env).names.lookup p.2=some .cell∨(relabel scope X.env).names.lookup p.2=some .free))
  (hi:CI X.nox tgt iter src)
  (hb:∀ s2 H2 C fp pn,DG (df X (tn++caps.map (·.2)) scope cl s2 H2 C fp pn) tgt g∧DF (df X (tn++caps.map (·.2)) scope cl s2 H2 C fp pn) ifs tc∧DE (df X (tn++caps.map (·.2)) scope cl s2 H2 C fp pn) elt te)
  (hs:∀ x,foldedSetIterable iter X.env x=pure x:=by intro _;rfl):DE X.nox (.ListComp elt [⟨tgt,iter,ifs,0⟩] scope pos) (vS src tn.length caps g tc te):=by
 obtain ⟨wi,hi,hw⟩:=hi
 refine PE.imp (wB (g:=upG X.K g) (tc:=upT X.K tc) (te:=up X.K te) tn caps hcalm hclos hcell hkind hnames hcl hhas hcap hi hb hs) fun σ H Q ⟨G,δ,P,R,s,h,k,_⟩=>?_
 refine hw G δ P σ H _ _ s h fun xs δ1 ⟨hz,f,hf,r⟩ J P1 H1 hP s1 hgo hst hyl p hp=>?_
 exact jQ s1 hz (fun A i H x hi=>hgo A _ _ i H x hi) (fun A H x=>hst A _ _ H x) (fun A i x H H2 s hi hy=>hyl A _ _ i x H H2 s hi hy) hf (fun v H' s'=>k _ δ1 r v H' (s'.sub fun q hq=>by
  rcases List.mem_cons.mp hq with rfl | hq
  ·simp
  ·exact List.mem_cons_of_mem _ (hP q hq))) p hp
end
def yS (cells:List (Str×Addr)):List (Str×Addr)→Prop
 | []=>True
 | y :: r=>cells.lookup y.1=some y.2∧yS cells r
theorem cB {cells:List (Str×Addr)}:∀ {cl:List (Str×Addr)},yS cells cl→∀ x c,cl.lookup x=some c→cells.lookup x=some c
 | [],_,x,c,h=>by cases h
 | y :: r,⟨h1,h2⟩,x,c,h=>by
  rw [List.lookup_cons] at h
  cases e:x == y.1 with
  | true =>
   rw [e] at h
   have e:=eq_of_beq e
   cases h
   rw [e]
   exact h1
  | false =>
   rw [e] at h
   exact cB h2 x c h
theorem cF {names:List (Str×NameKind)} {cl:List (Str×Addr)} (h:(names.all fun y=>!(y.2 == .cell || y.2 == .free) || (cl.lookup y.1).isSome)=true):∀ x,(names.lookup x=some .cell∨names.lookup x=some .free)→∃ c,cl.lookup x=some c:=fun x hx=>by
 have key:∀ (ns:List (Str×NameKind)) k,ns.lookup x=some k→(x,k)∈ns:=fun ns=>by
  induction ns with
  | nil=>intro k h;cases h
  | cons y r ih =>
   intro k h
   rw [List.lookup_cons] at h
   cases e:x == y.1 with
   | true =>
    rw [e] at h
    have e:=eq_of_beq e
    cases h
    rw [e]
    exact List.mem_cons_self ..
   | false =>
    rw [e] at h
    exact List.mem_cons_of_mem _ (ih k h)
 have go:∀ k,(k=.cell∨k=.free)→names.lookup x=some k→∃ c,cl.lookup x=some c:=fun k hk e=>by
  have m:=key _ _ e
  have q:=List.all_eq_true.mp h _ m
  have hb:((k == NameKind.cell || k == .free))=true:=by rcases hk with rfl | rfl<;>rfl
  simp only [hb,Bool.not_true,Bool.false_or] at q
  exact Option.isSome_iff_exists.mp q
 rcases hx with e | e
 ·exact go _ (.inl rfl) e
 ·exact go _ (.inr rfl) e
def uG (p:Nat×Str→Prop):List (Nat×Str)→Prop
 | []=>True
 | y :: r=>p y∧uG p r
theorem bG {p:Nat×Str→Prop}:∀ {l:List (Nat×Str)},uG p l→∀ y∈l,p y
 | [],_,y,h=>by cases h
 | z :: r,⟨h1,h2⟩,y,h=>by
  rcases List.mem_cons.mp h with rfl | h
  ·exact h1
  ·exact bG h2 y h
end DL
namespace DL
open PySem PySem.Spec PyProof.Rows L2
abbrev FO:=D→List D→(D→D→Prop)→Prop
def spO (K:PySem.W.Frag) (f:FO):Sp:=fun vs H Q _=>∃ (M:Addr→Prop) (a:Addr) (d0:D) (vs':List V) (ds:List D) (R:D→D→Prop),vs=.ref a :: vs'∧(∀ b,M b→H b≠none)∧¬ M a∧bA K (fun b=>M b∨b=a) H a d0∧Reps K (fun b=>M b∨b=a) H ds vs'∧f d0 ds R ∧
 ∀ r d1,R r d1→∀ v H',(∀ b o,b≠a→H b=some o→H' b=some o)→bA K (fun b=>M b∨b=a) H' a d1→Rep K (fun b=>M b∨b=a) H' r v→Q v H'
def spO1 (K:PySem.W.Frag) (f:FO):Sp:=fun vs H Q E=>∃ v0 v1,vs=[v0,v1]∧spO K f [v1,v0] H Q E
section
variable {P:Program} {w:World} {K:PySem.W.Frag} {mg:Str→Option Value} {base:Heap}
theorem Cal.imp {k:Nat} {x:Str} {ps:List Str} {sp sp':Sp} (C:Cal P w K mg base k x ps sp) (h:∀ vs H Q E,sp' vs H Q E→sp vs H Q E):Cal P w K mg base k x ps sp':=by
 obtain ⟨a,fd,F,b,kp,m⟩:=C.ex
 exact⟨a,fd,F.imp h,b,kp,m⟩
theorem tF {x:Str} {st:Stmt} {ps:List Str} {f:List D→(D→Prop)→Prop} (F:Fd K mg x st ps) (k:Nat) (h:∀ ds R,¬ f ds R):Cal P w K mg base k x ps (spD K f):=by
 obtain ⟨a,fd,Fu,b,m⟩:=F.ex
 have no:∀ vs H Q E,¬ spD K f vs H Q E:=fun vs H Q E ⟨_,ds,R,_,_,hf,_⟩=>h ds R hf
 exact⟨a,fd,⟨fun vs H Q E h=>absurd h (no vs H Q E),fun A outer s H args us vs Q E _ _ _ _ h=>absurd h (no vs H Q E)⟩,b,Fu.kp,m⟩
theorem qK {x:Str} {st:Stmt} {ps:List Str} {f:FO} (F:Fd K mg x st ps) (k:Nat) (h:∀ d ds R,¬ f d ds R):Cal P w K mg base k x ps (spO1 K f):=by
 obtain ⟨a,fd,Fu,b,m⟩:=F.ex
 have no:∀ vs H Q E,¬ spO1 K f vs H Q E:=fun vs H Q E ⟨_,_,_,_,_,d0,_,ds,R,_,_,_,_,_,hf,_⟩=>h d0 ds R hf
 exact⟨a,fd,⟨fun vs H Q E h=>absurd h (no vs H Q E),fun A outer s H args us vs Q E _ _ _ _ h=>absurd h (no vs H Q E)⟩,b,Fu.kp,m⟩
theorem nI {M:Addr→Prop} {a:Addr} {d0:D} {ds1 ds2:List D} {vs1 vs2:List V} {H:Hp} (N:List Str) (m:∀ b,M b→H b≠none) (na:¬ M a) (ow:bA K (fun b=>M b∨b=a) H a d0) (r1:Reps K (fun b=>M b∨b=a) H ds1 vs1) (r2:Reps K (fun b=>M b∨b=a) H ds2 vs2) :
  S K ⟨M,H,fun b=>b=a⟩ (ds1.map Sl.dat++Sl.own a d0 :: (ds2.map Sl.dat++List.replicate (N.length - (ds1.length + 1 + ds2.length)) Sl.no)) [] (L2.start N (vs1++.ref a :: vs2)) H:=by
 have hl1:=Reps.length _ _ r1
 have hl2:=Reps.length _ _ r2
 have hHa:H a≠none:=by
  cases d0 with
  | lst ds=>obtain ⟨vs,q,_⟩:=ow;rw [q];exact fun z=>nomatch z
  | dct ks ds=>obtain ⟨vs,q,_⟩:=ow;rw [q];exact fun z=>nomatch z
  | _=>exact ow.elim
 have place:∀ (i:Nat) z,(ds1.map Sl.dat++Sl.own a d0 :: (ds2.map Sl.dat++List.replicate (N.length - (ds1.length + 1 + ds2.length)) Sl.no))[i]?=some z →
   (∃ d,ds1[i]?=some d∧z=.dat d)∨(i=ds1.length∧z=.own a d0)∨(∃ d,ds1.length + 1≤i∧ds2[i - (ds1.length + 1)]?=some d∧z=.dat d)∨z=.no:=fun i z e=>by
  by_cases h1:i < ds1.length
  ·rw [List.getElem?_append_left (by rw [List.length_map];exact h1),List.getElem?_map] at e
   cases hd:ds1[i]? with
   | none=>rw [hd] at e;cases e
   | some d=>rw [hd] at e;exact .inl ⟨d,rfl,(Option.some.inj e).symm⟩
  ·rw [List.getElem?_append_right (by rw [List.length_map];omega),List.length_map] at e
   by_cases h2:i=ds1.length
   ·subst h2
    rw [Nat.sub_self,List.getElem?_cons_zero] at e
    exact .inr (.inl ⟨rfl,(Option.some.inj e).symm⟩)
   ·have e3:i - ds1.length=(i - (ds1.length + 1)) + 1:=by omega
    rw [e3,List.getElem?_cons_succ] at e
    by_cases h3:i - (ds1.length + 1) < ds2.length
    ·rw [List.getElem?_append_left (by rw [List.length_map];exact h3),List.getElem?_map] at e
     cases hd:ds2[i - (ds1.length + 1)]? with
     | none=>rw [hd] at e;cases e
     | some d=>rw [hd] at e;exact .inr (.inr (.inl ⟨d,by omega,rfl,(Option.some.inj e).symm⟩))
    ·rw [List.getElem?_append_right (by rw [List.length_map];omega),List.getElem?_replicate] at e
     split at e
     ·exact .inr (.inr (.inr (Option.some.inj e).symm))
     ·cases e
 have st:∀ i,i < (vs1++V.ref a :: vs2).length→(L2.start N (vs1++.ref a :: vs2))[i]?=(vs1++V.ref a :: vs2)[i]?.map some:=fun i hi=>by
  unfold L2.start
  rw [List.getElem?_append_left (by rw [List.length_map];exact hi),List.getElem?_map]
 have hM:∀ b,(M b∨b=a)→(M b∨b=a)∨H b=none:=fun b h=>.inl h
 refine⟨fun b=>b=a,fun b o e _=>e,fun b e=>e,m,fun b h=>⟨by rw [h];exact hHa,by rw [h];exact na⟩,fun b h=>.inr h,fun b h=>by rw [h];exact hHa,?_,fun i d e=>?_,fun i a' d e=>?_,fun i j a' d e h1 h2=>?_,fun p hp=>(nomatch hp)⟩
 ·unfold L2.start
  simp only [List.length_append,List.length_map,List.length_cons,List.length_replicate]
  omega
 ·rcases place i _ e with ⟨d',hd,z⟩ | ⟨_,z⟩ | ⟨d',hi,hd,z⟩ | z
  ·cases z
   obtain ⟨v,ev,rv⟩:=Reps.get _ _ r1 i d hd
   have hi:i < vs1.length:=(List.getElem?_eq_some_iff.mp ev).1
   exact⟨v,by rw [st i (by rw [List.length_append];omega),List.getElem?_append_left hi,ev];rfl,rv⟩
  ·cases z
  ·cases z
   obtain ⟨v,ev,rv⟩:=Reps.get _ _ r2 _ d hd
   have hi2:i - (ds1.length + 1) < vs2.length:=(List.getElem?_eq_some_iff.mp ev).1
   refine⟨v,?_,rv⟩
   rw [st i (by rw [List.length_append,List.length_cons];omega),List.getElem?_append_right (by omega),← hl1]
   have e3:i - ds1.length=(i - (ds1.length + 1)) + 1:=by omega
   rw [e3,List.getElem?_cons_succ,ev]
   rfl
  ·cases z
 ·rcases place i _ e with ⟨d',hd,z⟩ | ⟨hi,z⟩ | ⟨d',hi,hd,z⟩ | z
  ·cases z
  ·cases z
   subst hi
   refine⟨?_,rfl,ow⟩
   rw [st _ (by rw [List.length_append,List.length_cons];omega),List.getElem?_append_right (by omega),hl1,Nat.sub_self]
   rfl
  ·cases z
  ·cases z
 ·have u:∀ i a' d,(ds1.map Sl.dat++Sl.own a d0 :: (ds2.map Sl.dat++List.replicate (N.length - (ds1.length + 1 + ds2.length)) Sl.no))[i]?=some (.own a' d)→i=ds1.length:=fun i a' d e=>by
   rcases place i _ e with ⟨d',hd,z⟩ | ⟨hi,z⟩ | ⟨d',hi,hd,z⟩ | z
   ·cases z
   ·exact hi
   ·cases z
   ·cases z
  rw [u i _ _ h1,u j _ _ h2]
theorem gF {M A':Addr→Prop} {a:Addr} {d:D} {H':Hp} (ha:A' a) (o:bA K (fun b=>M b∨A' b) H' a d):bA K (fun b=>M b∨b=a) H' a d:=bA.more (fun b z=>.inl (z.elim .inl fun e=>.inr (by rw [e];exact ha))) o
theorem fn_O {x:Str} {st:Stmt} {N ps:List Str} {k:Nat} {f:FO} (F:Fd K mg x st ps) (Sc:ax N ps (ak st)) (len:∀ d ds R,f d ds R→ds.length + 1=ps.length)
    (hbody:∀ (fa:Addr) (cdv:Value) (A:Around) (outer:List Env) (s:Shared) (H:Hp) (E:XK) (a:Addr) (d0:D) (ds:List D) (R:D→D→Prop),Room k (A.deeper (envOfC x (ak st) s.heap.objs.size fa cdv))→f d0 ds R →
      ∃ t,DSs (cxOf CX0 P w K mg base N x (ak st) fa cdv A outer s H E).nox (a9 st) t ∧
        t { nx:=fun δ=>∃ d1,δ[0]?=some (.own a d1)∧R .non d1,rt:=fun d δ=>∃ d1,δ[0]?=some (.own a d1)∧R d d1 } (Sl.own a d0 :: (ds.map Sl.dat++List.replicate (N.length - (1 + ds.length)) Sl.no))) :
    Cal P w K mg base (k + 1) x ps (spO K f):=by
  obtain ⟨fa,fd,Fu,b,mm⟩:=F.ex
  refine⟨fa,fd,Fu.ok Sc (fun vs H Q E h=>?_) (fun cdv A outer s H vs Q E hr h=>?_),b,Fu.kp,mm⟩
  · obtain ⟨M,a,d0,vs',ds,R,rfl,m,na,ow,rs,hf,hk⟩:=h
    rw [List.length_cons,← Reps.length _ _ rs]
    exact len _ _ _ hf
  · obtain ⟨M,a,d0,vs',ds,R,rfl,m,na,ow,rs,hf,hk⟩:=h
    obtain ⟨t,ht,hq⟩:=hbody fa cdv A outer s H E a d0 ds R hr hf
    have ss:=nI (ds1:=[]) (vs1:=[]) N m na ow Reps.nil rs
    rw [show ([]:List D).length + 1 + ds.length=1 + ds.length by simp] at ss
    refine⟨_,ht,_,_,[],_,ss,hq,fun δ' ⟨d1,e,r⟩ σ' H' ⟨A',x⟩=>?_,⟨fun d δ' ⟨d1,e,r⟩ v σ' H' ⟨A',x⟩=>?_,fun _ h=>h.elim⟩,fun _ h=>h.elim,fun _ h=>h.elim,fun z=>z.elim⟩
    · obtain ⟨_,aa,oo⟩:=x.own 0 a d1 e
      exact hk _ _ r .non H' (fun b o n e=>x.old b o e n) (gF aa oo) (by unfold Rep;rfl)
    · obtain ⟨_,aa,oo⟩:=x.own 0 a d1 e
      exact hk _ _ r v H' (fun b o n e=>x.old b o e n) (gF aa oo) (Rep.more (fun b z=>.inl (z.elim .inl fun e=>.inr (by rw [e];exact aa))) _ _ (x.pnd (d,v) (by simp)))
theorem AE {x:Str} {st:Stmt} {N ps:List Str} {k:Nat} {f:FO} (F:Fd K mg x st ps) (Sc:ax N ps (ak st)) (hp:ps.length=2) (len:∀ d ds R,f d ds R→ds.length=1)
    (hbody:∀ (fa:Addr) (cdv:Value) (A:Around) (outer:List Env) (s:Shared) (H:Hp) (E:XK) (a:Addr) (d0 d:D) (R:D→D→Prop),Room k (A.deeper (envOfC x (ak st) s.heap.objs.size fa cdv))→f d0 [d] R →
      ∃ t,DSs (cxOf CX0 P w K mg base N x (ak st) fa cdv A outer s H E).nox (a9 st) t ∧
        t { nx:=fun δ=>∃ d1,δ[1]?=some (.own a d1)∧R .non d1,rt:=fun d δ=>∃ d1,δ[1]?=some (.own a d1)∧R d d1 } (Sl.dat d :: Sl.own a d0 :: List.replicate (N.length - 2) Sl.no)) :
    Cal P w K mg base (k + 1) x ps (spO1 K f):=by
  obtain ⟨fa,fd,Fu,b,mm⟩:=F.ex
  refine⟨fa,fd,Fu.ok Sc (fun vs H Q E h=>?_) (fun cdv A outer s H vs Q E hr h=>?_),b,Fu.kp,mm⟩
  · obtain ⟨v0,v1,rfl,_⟩:=h
    exact hp.symm
  · obtain ⟨v0,v1,rfl,M,a,d0,vs',ds,R,e,m,na,ow,rs,hf,hk⟩:=h
    cases e
    have hl:=len _ _ _ hf
    match ds,hl with
    | [d],_ =>
      obtain ⟨t,ht,hq⟩:=hbody fa cdv A outer s H E a d0 d R hr hf
      have ss:=nI (ds2:=[]) (vs2:=[]) N m na ow rs Reps.nil
      refine⟨_,ht,_,_,[],_,ss,hq,fun δ' ⟨d1,e,r⟩ σ' H' ⟨A',x⟩=>?_,⟨fun d δ' ⟨d1,e,r⟩ v σ' H' ⟨A',x⟩=>?_,fun _ h=>h.elim⟩,fun _ h=>h.elim,fun _ h=>h.elim,fun z=>z.elim⟩
      · obtain ⟨_,aa,oo⟩:=x.own 1 a d1 e
        exact hk _ _ r .non H' (fun b o n e=>x.old b o e n) (gF aa oo) (by unfold Rep;rfl)
      · obtain ⟨_,aa,oo⟩:=x.own 1 a d1 e
        exact hk _ _ r v H' (fun b o n e=>x.old b o e n) (gF aa oo) (Rep.more (fun b z=>.inl (z.elim .inl fun e=>.inr (by rw [e];exact aa))) _ _ (x.pnd (d,v) (by simp)))
end
def AM (i:Nat) (f:List D→(D→Prop)→Prop) (t:TDA):TDS:=fun R δ=>t δ fun ds δ1=>f ds fun d=>∀ a,R.nx (δ1.set i (.own a d))
def xX (i:Nat) (t:TDA):TDS:=fun R δ=>t δ fun ds δ1=>ds.length≤9000∧∀ a,R.nx (δ1.set i (.own a (.lst ds)))
def yP (i:Nat):TDS:=fun R δ=>∀ a,R.nx (δ.set i (.own a (.dct [] [])))
def yE (i:Nat):TDS:=fun R δ=>∃ a d,δ[i]?=some (.own a d)∧R.ro d
def yG (t:TDA):TDS:=fun R δ=>t δ fun ds _=>ds.length≤9000∧R.ro (.lst ds)
def yO (i:Nat) (f:FO) (t:TDA):TDE:=fun δ R=>∃ a d,δ[i]?=some (.own a d)∧t δ fun ds δ1=>∃ d0,δ1[i]?=some (.own a d0)∧f d0 ds fun r d1=>R (.d r) (δ1.set i (.own a d1))
def As (i:Nat):TDE:=fun δ R=>∃ a ds,δ[i]?=some (.own a (.lst ds))∧R (.d (.int ds.length)) δ
def qG (i:Nat):TDE:=fun δ R=>∃ a ds,δ[i]?=some (.own a (.lst ds))∧R (.d (.tup ds)) δ
def qf (i:Nat) (t:TDS):TDS:=fun R δ=>∃ a d,δ[i]?=some (.own a d)∧t R (δ.set i (.dat d))
section
variable {X:Cx} {pos:Pos} {a b e:Expr} {es:List Expr} {ta tb:TDE} {t:TDA} {f:List D→(D→Prop)→Prop}
theorem S.ret {K:PySem.W.Frag} {G:Gf} {δ:En} {P:List (D×V)} {σ:L2.St} {H:Hp} {i:Nat} {a:Addr} {d:D} (s:S K G δ P σ H) (e:δ[i]?=some (.own a d)):vn K G H a d:=by
 obtain ⟨A,x⟩:=s
 obtain ⟨_,aa,oo⟩:=x.own i a d e
 exact⟨x.old,x.new a aa,fun z=>(x.new a aa).elim (fun q=>x.m0 a z q) fun q=>(x.pm a q).2 z,gF aa oo⟩
theorem kW (i:Nat) {x:Str} {p:Pos} (hN:X.N[i]?=some x:=by rfl) (hv:Vis X.env.scope x:=by walk_at "v3") (hd:(x == ("__debug__":Str))=false:=by decide)
  (hcd:(x == ("__classdict__":Str))=false:=by decide):DS X (.Return (some (.Name x p)) pos) (yE i) :=
 PS.imp (qE (cE hN hv hd hcd)) fun E σ H ⟨G,δ,P,R,s,⟨a,d,e,r⟩,_,k,_⟩=>⟨.ref a,s.own e,k.2 d r a H (s.ret e)⟩
theorem ds_retL {p:Pos} (h:DA X es t):DS X (.Return (some (.List es p)) pos) (yG t) :=
 PS.imp (qE (pE h)) fun E σ H ⟨G,δ,P,R,s,h,_,k,_⟩=>⟨G,δ,P,_,s,h,fun ds δ1 ⟨hz,r⟩ vs H1 hl ⟨A,x⟩=>⟨by rw [← hl];exact ej hz,fun p hp=>k.2 _ r p _ (by
  have rs:=x.reps ds vs hl (fun q hq=>List.mem_append_left _ hq)
  have sm:=aD hp (.lst vs)
  have nm:¬ (G.M0 p∨A p):=fun z=>x.mem p z hp
  refine⟨fun b o e n=>sm b o (x.old b o e n),.inl ?_,fun z=>nm (.inl z),vs,aq,Reps.kp (Kp.of_same sm) _ _ (Reps.more (fun b z=>?_) _ _ rs)⟩
  ·cases q:G.H0 p with
   | none=>rfl
   | some o=>exact absurd hp (x.stay p (by rw [q];exact fun z=>nomatch z))
  ·rcases z with z | z
   ·exact .inl (.inl z)
   ·exact .inr (by rw [z];exact hp))⟩⟩
theorem ip (i:Nat) {x:Str} {p pos':Pos} (hN:X.N.Nodup) (h:DA X es t) (hi:X.N[i]?=some x:=by rfl) (hx:Loc X.env.scope x:=by walk_at "v2") (hs:swapsWith (.List es p) (some (.Name x pos')) pos.line X.env=pure false:=by rfl)
  (hf:X.fn x=true∨X.env.scope.names.lookup x=some .local :=by walk_at "v1"):DS X (.Assign [.Name x pos'] (.List es p) pos) (xX i t) :=
 PS.imp (iM hN hi hx (pE h) hs hf) fun E σ H ⟨G,δ,P,R,s,h,k,_⟩=>⟨G,δ,P,_,s,h,fun ds δ1 ⟨hz,r⟩ vs H1 hl ⟨A,x⟩=>⟨by rw [← hl];exact ej hz,fun p hp=>by
  have rs:=x.reps ds vs hl (fun q hq=>List.mem_append_left _ hq)
  have sm:=aD hp (.lst vs)
  refine k _ (r p) _ _ ⟨_,x.claim (P':=P) hp sm ⟨vs,aq,Reps.kp (Kp.of_same sm) _ _ (Reps.more (fun b z=>?_) _ _ rs)⟩ fun q hq=>List.mem_append_right _ hq⟩
  rcases z with z | z
  ·exact .inl z
  ·exact .inr (by rw [z];exact hp)⟩⟩
theorem eK (i:Nat) {x:Str} {p pos':Pos} (hN:X.N.Nodup) (hi:X.N[i]?=some x:=by rfl) (hx:Loc X.env.scope x:=by walk_at "v2") (hs:swapsWith (.Dict [] [] p) (some (.Name x pos')) pos.line X.env=pure false:=by rfl)
  (hf:X.fn x=true∨X.env.scope.names.lookup x=some .local :=by walk_at "v1"):DS X (.Assign [.Name x pos'] (.Dict [] [] p) pos) (yP i) :=
 PS.imp (iM hN hi hx nZ hs hf) fun E σ H ⟨G,δ,P,R,⟨A,x⟩,h,k,_⟩=>fun p hp=>by
  have sm:=aD hp (.dK [])
  exact k _ (h p) _ _ ⟨_,x.claim (P':=P) hp sm ⟨[],by rw [aq];rfl,rfl,Reps.nil⟩ fun q hq=>hq⟩
theorem vK {K:PySem.W.Frag} {G:Gf} {A:Addr→Prop} {δ:En} {P P':List (D×V)} {σ:L2.St} {H:Hp} {i:Nat} {a:Addr} {d0:D} {ds:List D} {vs:List V} {f:FO} {R:D→D→Prop} {Q:VK} {E:XK} (x:Sx K G A δ P σ H) (hi:δ[i]?=some (.own a d0)) (hl:ds.length=vs.length) (hp:∀ p∈ds.zip vs,p∈P)
  (hP:∀ p∈P',p∈P) (hf:f d0 ds R) (k:∀ r d1,R r d1→∀ v H',S K G (δ.set i (.own a d1)) ((r,v) :: P') σ H'→Q v H'):spO K f (.ref a :: vs) H Q E:=by
 obtain ⟨_,aa,oo⟩:=x.own i a d0 hi
 have e1:∀ b,(((G.M0 b∨A b)∧b≠a)∨b=a)→(G.M0 b∨A b):=fun b h=>h.elim (fun z=>z.1) fun z=>.inr (by rw [z];exact aa)
 have e2:∀ b,(G.M0 b∨A b)→(((G.M0 b∨A b)∧b≠a)∨b=a):=fun b h=>by
  by_cases z:b=a
  ·exact .inr z
  ·exact .inl ⟨h,z⟩
 refine⟨fun b=>(G.M0 b∨A b)∧b≠a,a,d0,vs,ds,R,rfl,fun b z=>x.mem b z.1,fun z=>z.2 rfl,bA.more (fun b z=>.inl (e1 b z)) oo,Reps.more (fun b z=>.inl (e1 b z)) _ _ (x.reps ds vs hl hp),hf,fun r d1 hr v H' hk ow rp=>k r d1 hr v H' ⟨A,?_⟩⟩
 exact ((x.change hi hk (bA.more (fun b z=>.inl (e2 b z)) ow)).sub hP).push (Rep.more (fun b z=>.inl (e2 b z)) _ _ rp)
theorem j9 (i:Nat) {f:FO} {x y:Str} {k:Nat} {ps:List Str} {p p2 pos:Pos} (C:Cal X.prog X.w X.K X.mg X.base k x ps (spO1 X.K f)) (hr:Room k X.A) (hg:Gl X x) (ha:DE X a ta) (hN:X.N[i]?=some y:=by rfl)
  (hv:Vis X.env.scope y:=by walk_at "v3") (hd:(y == ("__debug__":Str))=false:=by decide) (hcd:(y == ("__classdict__":Str))=false:=by decide) (hdb:(x == ("__debug__":Str))=false:=by decide)
  (he:starEach [a,.Name y p2] X.env=(false,eval a X.env) :: starEach [.Name y p2] X.env:=by rfl) (he2:starEach [.Name y p2] X.env=(false,eval (.Name y p2) X.env) :: starEach [] X.env:=by rfl) (hpl:(backTo pos (starEach [.Name y p2] X.env)).any (·.1)=false:=by rfl) :
  DE X (.Call (.Name x p) [a,.Name y p2] [] pos) (fun δ R=>ta δ (wd fun z δ1=>∃ a d0,δ1[i]?=some (.own a d0)∧f d0 [z] fun r d1=>R (.d r) (δ1.set i (.own a d1)))):=by
 obtain ⟨g,fd,F,b,kp,m⟩:=C.ex
 refine PE.imp (jg F hr hg m kp b .nil tR (ba ha (ba (cE hN hv hd hcd) dy he2) he) hdb he hpl) fun σ H Q ⟨G,δ,P,R,s,h,k,_⟩=>up.mk s h fun z δ1 ⟨a,d0,hi,hf⟩ v H1 s1=>⟨.ref a,s1.own hi,?_⟩
 show spO1 X.K f [v,.ref a] H1 Q _
 obtain ⟨A,x⟩:=s1
 exact⟨v,.ref a,rfl,vK (ds:=[z]) x hi rfl (by simp) (P':=P) (fun q hq=>List.mem_cons_of_mem _ hq) hf fun r d1 hr v H' s'=>k r _ hr v H' s'⟩
theorem cA {K:PySem.W.Frag} {G:Gf} {A:Addr→Prop} {δ:En} {P:List (D×V)} {σ:L2.St} {H:Hp} {i:Nat} {a:Addr} {ds:List D} (x:Sx K G A δ P σ H) (hi:δ[i]?=some (.own a (.lst ds))):σ[i]?=some (some (.ref a))∧A a∧∃ vs,H a=some (.lst vs)∧Reps K (fun b=>G.M0 b∨A b) H ds vs:=by
 obtain ⟨h1,h2,vs,h3,h4⟩:=x.own i a _ hi
 exact⟨h1,h2,vs,h3,h4⟩
theorem zL (i:Nat) {y:Str} {p pos:Pos} (hb:DE X b tb) (hs:l7 b) (hN:X.N[i]?=some y:=by rfl) (hv:Vis X.env.scope y:=by walk_at "v3")
  (hd:(y == ("__debug__":Str))=false:=by decide) (hcd:(y == ("__classdict__":Str))=false:=by decide):DE X (.Subscript (.Name y p) b pos) (fun δ R=>∃ a ds,δ[i]?=some (.own a (.lst ds))∧tb δ (wd fun z δ1=>∃ ds k v,δ1[i]?=some (.own a (.lst ds))∧z=.int k∧atI ds k=some v∧R (.d v) δ1)) :=
 PE.imp (Ar qM (cE hN hv hd hcd) hb hs) fun σ H Q ⟨G,δ,P,R,s,⟨a,ds0,e,h⟩,k,_⟩=>⟨.ref a,s.own e,up.mk s h fun z δ1 ⟨ds,j,w,hi,ez,ew,r⟩ v H1 s1=>by
  subst ez
  obtain ⟨A,x⟩:=id s1
  obtain ⟨_,aa,vs,hvs,rs⟩:=cA x hi
  obtain ⟨n,h1,h2⟩:=qu (Reps.length _ _ rs) ew
  obtain ⟨u,hu,ru⟩:=Reps.get _ _ rs n w h1
  exact⟨a,vs,j,u,rfl,aO (x.pnd (.int j,v) (by simp)),SqL.of hvs,h2 u hu,k w δ1 r u H1 ⟨A,(x.sub (P':=P) fun q hq=>List.mem_cons_of_mem _ hq).push ru⟩⟩⟩
theorem jw (i:Nat) {y:Str} {p p2 pos:Pos} (hg:Gl X "len") (hm:X.mg "len"=none) (hv':bootBuiltins "len"=some (.builtin "len")) (hN:X.N[i]?=some y:=by rfl) (hv:Vis X.env.scope y:=by walk_at "v3")
  (hd:(y == ("__debug__":Str))=false:=by decide) (hcd:(y == ("__classdict__":Str))=false:=by decide) (he:starEach [.Name y p2] X.env=(false,eval (.Name y p2) X.env) :: starEach [] X.env:=by rfl) (hpl:(backTo pos (starEach [] X.env)).any (·.1)=false:=by rfl) :
  DE X (.Call (.Name "len" p) [.Name y p2] [] pos) (As i) :=
 PE.imp (jq f7 hg hm hv' (ba (cE hN hv hd hcd) dy he) (by decide) (by decide) he hpl) fun σ H Q ⟨G,δ,P,R,s,⟨a,ds,e,h⟩,k,_⟩=>by
  obtain ⟨A,x⟩:=id s
  obtain ⟨h1,aa,vs,hvs,rs⟩:=cA x e
  exact⟨.ref a,h1,a,vs,rfl,.inl (SqL.of hvs),k _ δ h _ H (s.sc (by rw [Reps.length _ _ rs];rfl))⟩
theorem qS (i:Nat) {y:Str} {p p2 pos:Pos} (hg:Gl X "tuple") (hm:X.mg "tuple"=none) (hv':bootBuiltins "tuple"=some (.type "tuple")) (hN:X.N[i]?=some y:=by rfl) (hv:Vis X.env.scope y:=by walk_at "v3")
  (hd:(y == ("__debug__":Str))=false:=by decide) (hcd:(y == ("__classdict__":Str))=false:=by decide) (he:starEach [.Name y p2] X.env=(false,eval (.Name y p2) X.env) :: starEach [] X.env:=by rfl) (hpl:(backTo pos (starEach [] X.env)).any (·.1)=false:=by rfl) :
  DE X (.Call (.Name "tuple" p) [.Name y p2] [] pos) (qG i) :=
 PE.imp (e7 fD hg hm hv' (ba (cE hN hv hd hcd) dy he) (by decide) (by decide) he hpl) fun σ H Q ⟨G,δ,P,R,s,⟨a,ds,e,h⟩,k,_⟩=>by
  obtain ⟨A,x⟩:=id s
  obtain ⟨h1,aa,vs,hvs,rs⟩:=cA x e
  refine⟨.ref a,h1,a,vs,rfl,.inl ⟨SqL.of hvs,fun l hl=>k _ δ h _ _ ⟨A,(x.same (aD hl _)).push ?_⟩⟩⟩
  unfold Rep
  exact⟨l,vs,rfl,SqT.of aq,Reps.kp (Kp.of_same (aD hl _)) _ _ rs⟩
theorem vA (i:Nat) {y:Str} {p pos':Pos} (he:DE X e ta) (hb:DE X b tb) (hN:X.N[i]?=some y:=by rfl) (hv:Vis X.env.scope y:=by walk_at "v3")
    (hd:(y == ("__debug__":Str))=false:=by decide) (hcd:(y == ("__classdict__":Str))=false:=by decide) (hs:swapsWithSole [.Subscript (.Name y p) b pos'] e pos.line X.env=pure false:=by rfl) (hw:swappedStores [.Subscript (.Name y p) b pos'] e X.env=pure none:=by rfl)
    (h1:(assignEach [.Subscript (.Name y p) b pos'] X.env).map (·.2)=[assign (.Subscript (.Name y p) b pos') X.env]:=by rfl)
    (ha:∀ v,assign (.Subscript (.Name y p) b pos') X.env v=(do
      let ov←holding [v] (eval (.Name y p) X.env)
      let iv←holding [v,ov] (eval b X.env)
      standAt pos'
      holding [v,ov,iv] (setItem ov iv v)
      release [v,ov,iv] []):=by intro _;rfl) :
    DS X (.Assign [.Subscript (.Name y p) b pos'] e pos) (fun R δ=>ta δ (wd fun x δ1=>∃ a ds,δ1[i]?=some (.own a (.lst ds))∧tb δ1 (wd fun z δ2=>∃ ds k j,δ2[i]?=some (.own a (.lst ds))∧z=.int k∧ixN ds.length k=some j∧R.nx (δ2.set i (.own a (.lst (ds.set j x))))))) :=
  PS.imp (uL he (zE (cE hN hv hd hcd) hb uf ha) hs hw h1) fun E σ H ⟨G,δ,P,R,s,h,k,_⟩=>up.mk s h fun x δ1 ⟨a,ds0,hi0,h1⟩ v H1 s1=>⟨.ref a,s1.own hi0,up.mk s1 h1 fun z δ2 ⟨ds,n,j,hi,ez,hj,r⟩ u H2 ⟨A,q⟩=>by
    subst ez
    obtain ⟨_,aa,vs,hvs,rs⟩:=cA q hi
    refine⟨a,vs,n,j,rfl,aO (q.pnd (.int n,u) (by simp)),hvs,by rw [← Reps.length _ _ rs];exact hj,k _ r _ _ ⟨A,(q.change (d':=.lst (ds.set j x)) hi (fun b o n e=>by rw [aE n];exact e) ⟨vs.set j v,aq,?_⟩).sub (P':=P) fun q hq=>List.mem_cons_of_mem _ (List.mem_cons_of_mem _ hq)⟩⟩
    have kp:Kp (fun b=>G.M0 b∨A b) H2 (upd H2 a (.lst (vs.set j v))):=by
      have hk:∀ b o,b≠a→H2 b=some o→upd H2 a (.lst (vs.set j v)) b=some o:=fun b o n e=>by rw [aE n];exact e
      exact⟨fun b o e n=>hk b o (fun z=>n (.inr (by rw [z];exact aa))) e,fun b xs e=>hk b _ (fun z=>by rw [z,hvs] at e;cases e) e,fun b o u e=>hk b _ (fun z=>by rw [z,hvs] at e;cases e) e⟩
    exact Reps.kp kp _ _ (Reps.set (q.pnd (x,v) (by simp)) j _ _ rs)⟩
theorem cw (i:Nat) {y:Str} {p apos cpos:Pos} (he:DE X e ta) (hN:X.N[i]?=some y:=by rfl) (hv:Vis X.env.scope y:=by walk_at "v3")
  (hd:(y == ("__debug__":Str))=false:=by decide) (hcd:(y == ("__classdict__":Str))=false:=by decide)
  (hbase:attributeBase (.Name y p) "append" X.env (eval (.Name y p) X.env)=eval (.Name y p) X.env:=by rfl)
  (hfew:((backTo cpos (starEach [e] X.env)).all (fun x=>!x.1) && (backToKw cpos (keywordEach [] X.env)).all (fun x=>x.1.isSome) && decide ([e].length + ([]:List Keyword).length + (if ([]:List Keyword).isEmpty then 0 else 1) < 30))=true:=by rfl)
  (hline:(apos.endLine == cpos.line)=true:=by rfl) (hs:starEach [e] X.env=(false,eval e X.env) :: starEach [] X.env:=by rfl) (hplain:(backTo cpos (starEach [] X.env)).any (·.1)=false:=by rfl)
  (hsw:swapsWith (.Call (.Attribute (.Name y p) "append" apos) [e] [] cpos) none pos.line X.env=pure false:=by rfl) :
  DS X (.Expr (.Call (.Attribute (.Name y p) "append" apos) [e] [] cpos) pos) (fun R δ=>∃ a ds,δ[i]?=some (.own a (.lst ds))∧ta δ (wd fun x δ1=>∃ ds,δ1[i]?=some (.own a (.lst ds))∧ds.length < 9000∧R.nx (δ1.set i (.own a (.lst (ds++[x])))))) :=
 PS.imp (jt (wU PySem.F.plainAttrs_list PySem.F.slot_list_append PySem.F.type_list_append kB (cE hN hv hd hcd) (ba he dy hs) hbase hfew hline hs hplain) hsw) fun E σ H ⟨G,δ,P,R,s,⟨a,ds0,hi0,h⟩,k,_⟩=>by
  obtain ⟨A0,x0⟩:=id s
  obtain ⟨h0,_,vs0,hvs0,_⟩:=cA x0 hi0
  refine⟨.ref a,h0,.inl ⟨rfl,vs0,SqL.of hvs0⟩,up.mk s h fun x δ1 ⟨ds,hi,hz,r⟩ v H1 ⟨A,q⟩=>?_⟩
  obtain ⟨_,aa,vs,hvs,rs⟩:=cA q hi
  refine⟨a,vs,v,rfl,rfl,hvs,by rw [← Reps.length _ _ rs];exact gU (Nat.le_of_lt hz),k _ r _ _ ⟨A,(q.change (d':=.lst (ds++[x])) hi (fun b o n e=>by rw [aE n];exact e) ⟨vs++[v],aq,?_⟩).sub (P':=P) fun q hq=>List.mem_cons_of_mem _ hq⟩⟩
  have kp:Kp (fun b=>G.M0 b∨A b) H1 (upd H1 a (.lst (vs++[v]))):=by
   have hk:∀ b o,b≠a→H1 b=some o→upd H1 a (.lst (vs++[v])) b=some o:=fun b o n e=>by rw [aE n];exact e
   exact⟨fun b o e n=>hk b o (fun z=>n (.inr (by rw [z];exact aa))) e,fun b xs e=>hk b _ (fun z=>by rw [z,hvs] at e;cases e) e,fun b o u e=>hk b _ (fun z=>by rw [z,hvs] at e;cases e) e⟩
  exact Reps.kp kp _ _ (Reps.append _ _ _ _ rs (Reps.one (q.pnd (x,v) (by simp))))
theorem bJ (i:Nat) {st:List Stmt} {u:TDS} (h:DSs X st u):DSs X st (qf i u) :=
 PSs.imp h fun E σ H ⟨G,δ,P,R,⟨A,x⟩,⟨a,d,e,h⟩,k⟩=>⟨G,_,P,R,⟨_,x.freeze e fun z=>(x.new a (x.own i a d e).2.1).elim (fun q=>x.m0 a z q) fun q=>(x.pm a q).2 z⟩,h,k⟩
end
end DL
namespace DL
open PySem PySem.Spec PyProof.Rows L2
def dAt {α:Type}:List Str→List α→Str→Option α
 | k :: ks,d :: ds,x=>if k=x then some d else dAt ks ds x
 | _,_,_=>none
def vRep {α:Type}:List Str→List α→Str→α→List α
 | k :: ks,d :: ds,x,y=>(if k=x then y else d) :: vRep ks ds x y
 | _,ds,_,_=>ds
def kPut (ks:List Str) (x:Str):List Str:=if x∈ks then ks else ks++[x]
def vPut {α:Type} (ks:List Str) (ds:List α) (x:Str) (y:α):List α:=if x∈ks then vRep ks ds x y else ds++[y]
theorem nX {α:Type}:∀ (ks:List Str) (ds:List α) (x:Str) (y:α),(vRep ks ds x y).length=ds.length
 | [],ds,_,_=>by cases ds<;>rfl
 | k :: ks,[],_,_=>rfl
 | k :: ks,d :: ds,x,y=>by unfold vRep;rw [List.length_cons,List.length_cons,nX ks ds x y]
theorem xj {α:Type} {ks:List Str} {ds:List α} {x:Str} {y:α} (h:ks.length=ds.length):(kPut ks x).length=(vPut ks ds x y).length:=by
 unfold kPut vPut
 by_cases e:x∈ks
 ·rw [if_pos e,if_pos e,nX];exact h
 ·rw [if_neg e,if_neg e,List.length_append,List.length_append,h];rfl
theorem ux {ks:List Str} {vs:List V} (x:Str) (h:ks.length=vs.length):((aP ks vs).any fun kv=>decide (kv.1=Sum.inr x))=decide (x∈ks):=by
 induction ks generalizing vs with
 | nil=>rfl
 | cons k ks ih =>
  cases vs with
  | nil=>cases h
  | cons v vs =>
   show ((Sum.inr k,v) :: aP ks vs).any _=_
   rw [List.any_cons,ih (Nat.succ.inj h)]
   by_cases e:k=x
   ·subst e;simp
   ·have e2:¬ x=k:=fun z=>e z.symm
    simp [e,e2]
theorem tU {ks:List Str} {vs:List V} (x:Str) (y:V):(aP ks vs).map (fun kv=>if kv.1=Sum.inr x then (kv.1,y) else kv)=aP ks (vRep ks vs x y):=by
 induction ks generalizing vs with
 | nil=>rfl
 | cons k ks ih =>
  cases vs with
  | nil=>rfl
  | cons v vs =>
   show ((Sum.inr k,v) :: aP ks vs).map _=(Sum.inr k,if k=x then y else v) :: aP ks (vRep ks vs x y)
   rw [List.map_cons,ih]
   by_cases e:k=x
   ·subst e;simp
   ·have:¬ (Sum.inr k:Key)=Sum.inr x:=fun z=>e (Sum.inr.inj z)
    simp [e]
theorem we {ks:List Str} {vs:List V} (x:Str) (y:V) (h:ks.length=vs.length):putK (aP ks vs) (Sum.inr x) y=aP (kPut ks x) (vPut ks vs x y):=by
 unfold putK
 rw [ux x h]
 unfold kPut vPut
 by_cases e:x∈ks
 ·rw [decide_eq_true e,if_pos rfl,if_pos e,if_pos e,tU]
 ·rw [decide_eq_false e,if_neg Bool.false_ne_true,if_neg e,if_neg e]
  unfold aP
  rw [List.map_append,List.zip_append (by rw [List.length_map];exact h)]
  rfl
theorem fu {ks:List Str} {vs:List V} (x:Str):valV (aP ks vs) (Sum.inr x)=dAt ks vs x:=by
 induction ks generalizing vs with
 | nil=>rfl
 | cons k ks ih =>
  cases vs with
  | nil=>rfl
  | cons v vs =>
   show valV ((Sum.inr k,v) :: aP ks vs) _=if k=x then some v else dAt ks vs x
   by_cases e:k=x
   ·subst e;rw [gn rfl,if_pos rfl]
   ·rw [gv (fun z=>e (Sum.inr.inj z)),if_neg e,ih]
section
variable {K:PySem.W.Frag} {M:Addr→Prop} {H:Hp}
theorem Reps.rep {d:D} {v:V} (r:Rep K M H d v) (x:Str):∀ (ks:List Str) (ds:List D) (vs:List V),Reps K M H ds vs→Reps K M H (vRep ks ds x d) (vRep ks vs x v)
 | [],ds,vs,h=>by
  have e1:vRep [] ds x d=ds:=by cases ds<;>rfl
  have e2:vRep [] vs x v=vs:=by cases vs<;>rfl
  rw [e1,e2];exact h
 | k :: ks,[],vs,h=>by unfold Reps at h;subst h;exact Reps.nil
 | k :: ks,e :: ds,vs,h=>by
  unfold Reps at h
  obtain ⟨w,rs,rfl,q,s⟩:=h
  show Reps K M H ((if k=x then d else e) :: vRep ks ds x d) ((if k=x then v else w) :: vRep ks rs x v)
  refine Reps.cons ?_ (Reps.rep r x ks ds rs s)
  by_cases z:k=x
  ·rw [if_pos z,if_pos z];exact r
  ·rw [if_neg z,if_neg z];exact q
theorem Reps.put {ks:List Str} {ds:List D} {vs:List V} {d:D} {v:V} (x:Str) (h:Reps K M H ds vs) (r:Rep K M H d v):Reps K M H (vPut ks ds x d) (vPut ks vs x v):=by
 unfold vPut
 by_cases e:x∈ks
 ·rw [if_pos e,if_pos e];exact Reps.rep r x ks ds vs h
 ·rw [if_neg e,if_neg e];exact Reps.append _ _ _ _ h (Reps.one r)
theorem Reps.dAt (x:Str):∀ (ks:List Str) (ds:List D) (vs:List V),Reps K M H ds vs→(∀ d,DL.dAt ks ds x=some d→∃ v,DL.dAt ks vs x=some v∧Rep K M H d v)∧(DL.dAt ks ds x=none→DL.dAt ks vs x=none)
 | [],ds,vs,h=>⟨fun d e=>(nomatch e),fun _=>rfl⟩
 | k :: ks,[],vs,h=>by unfold Reps at h;subst h;exact⟨fun d e=>(nomatch e),fun _=>rfl⟩
 | k :: ks,e :: ds,vs,h=>by
  unfold Reps at h
  obtain ⟨w,rs,rfl,q,s⟩:=h
  obtain ⟨h1,h2⟩:=Reps.dAt x ks ds rs s
  show (∀ d,(if k=x then some e else DL.dAt ks ds x)=some d→∃ v,(if k=x then some w else DL.dAt ks rs x)=some v∧_)∧((if k=x then some e else DL.dAt ks ds x)=none→(if k=x then some w else DL.dAt ks rs x)=none)
  by_cases z:k=x
  ·simp only [if_pos z]
   exact⟨fun d e=>by cases e;exact⟨w,rfl,q⟩,fun e=>(nomatch e)⟩
  ·simp only [if_neg z]
   exact⟨h1,h2⟩
theorem jD {α:Type} {ks:List Str} {ds:List α} {x:Str} (h:ks.length=ds.length):(dAt ks ds x).isSome=decide (x∈ks):=by
 induction ks generalizing ds with
 | nil=>rfl
 | cons k ks ih =>
  cases ds with
  | nil=>cases h
  | cons v vs =>
   show (if k=x then some v else dAt ks vs x).isSome=_
   by_cases e:k=x
   ·subst e;simp
   ·have e2:¬ x=k:=fun z=>e z.symm
    rw [if_neg e,ih (Nat.succ.inj h)]
    simp [e2]
end
def tM:List D→(D→Prop)→Prop
 | [.dct ks ds,.str x],R=>∃ d,dAt ks ds x=some d∧R d
 | [.fd ks ds,.str x],R=>∃ d,dAt ks ds x=some d∧R d
 | _,_=>False
theorem tQ {d0:List D} {R:D→Prop} (h:tM d0 R):(∃ (ks:List Str) (ds:List D) (x:Str),d0=[.dct ks ds,.str x]∧∃ d,dAt ks ds x=some d∧R d)∨(∃ (ks:List Str) (ds:List D) (x:Str),d0=[.fd ks ds,.str x]∧∃ d,dAt ks ds x=some d∧R d):=by
 rcases d0 with _ | ⟨a,_ | ⟨b,_ | ⟨c,l⟩⟩⟩
 ·exact False.elim h
 ·cases a<;>exact False.elim h
 ·cases a<;>first | exact False.elim h | (cases b<;>first | exact False.elim h | exact .inl ⟨_,_,_,rfl,h⟩ | exact .inr ⟨_,_,_,rfl,h⟩)
 ·cases a<;>first | exact False.elim h | (cases b<;>exact False.elim h)
theorem sR {ks:List Str} {ds:List D} {x:Str} {R:D→Prop}:tM [.fd ks ds,.str x] R↔∃ d,dAt ks ds x=some d∧R d:=Iff.rfl
theorem tj {ks:List Str} {ds:List D} {x:Str} {R:D→Prop}:tM [.dct ks ds,.str x] R↔∃ d,dAt ks ds x=some d∧R d:=Iff.rfl
def fIn (g:Bool→Bool):List D→(D→Prop)→Prop
 | [.str x,.dct ks _],R=>R (.bl (g (decide (x∈ks))))
 | [.str x,.lst ds],R=>∃ ss:List Str,ds=ss.map D.str∧R (.bl (g (decide (x∈ss))))
 | _,_=>False
theorem uH {g:Bool→Bool} {d0:List D} {R:D→Prop} (h:fIn g d0 R):(∃ (x:Str) (ks:List Str) (z1:List D),d0=[.str x,.dct ks z1]∧R (.bl (g (decide (x∈ks)))))∨(∃ (x:Str) (ds:List D),d0=[.str x,.lst ds]∧∃ ss:List Str,ds=ss.map D.str∧R (.bl (g (decide (x∈ss))))):=by
 rcases d0 with _ | ⟨a,_ | ⟨b,_ | ⟨c,l⟩⟩⟩
 ·exact False.elim h
 ·cases a<;>exact False.elim h
 ·cases a<;>first | exact False.elim h | (cases b<;>first | exact False.elim h | exact .inl ⟨_,_,_,rfl,h⟩ | exact .inr ⟨_,_,rfl,h⟩)
 ·cases a<;>first | exact False.elim h | (cases b<;>exact False.elim h)
theorem wF {g:Bool→Bool} {ks:List Str} {ds:List D} {x:Str} {R:D→Prop}:fIn g [.str x,.dct ks ds] R↔R (.bl (g (decide (x∈ks)))):=Iff.rfl
theorem vN {g:Bool→Bool} {ds:List D} {x:Str} {R:D→Prop}:fIn g [.str x,.lst ds] R↔∃ ss:List Str,ds=ss.map D.str∧R (.bl (g (decide (x∈ss)))):=Iff.rfl
theorem fA {K:PySem.W.Frag} {M:Addr→Prop} {H:Hp}:∀ {ss:List Str} {vs:List V},Reps K M H (ss.map D.str) vs→vs=ss.map V.str
 | [],vs,h=>by unfold Reps at h;exact h
 | s :: ss,vs,h=>by
  rw [List.map_cons] at h
  unfold Reps at h
  obtain ⟨v,r,rfl,q,t⟩:=h
  rw [bu q,fA t];rfl
theorem cJ {K:PySem.W.Frag} {M:Addr→Prop} {H:Hp}:∀ (ss:List Str),Reps K M H (ss.map D.str) (ss.map V.str)
 | []=>Reps.nil
 | s :: ss=>Reps.cons (by unfold Rep;rfl) (cJ ss)
theorem d9:∀ {ss:List Str} {us:List Value},Vals (ss.map V.str) us→StrsAre us ss
 | [],_,r=>by rw [List.map_nil] at r;cases r;exact .nil
 | s :: ss,_,r=>by
  rw [List.map_cons] at r
  cases r with
  | @cons _ u _ us h t =>
   obtain ⟨t',e⟩:=(show ∃ t,u=Value.str s t from h)
   subst e
   exact .cons _ _ (d9 t)
theorem cG:∀ {ss:List Str} {us:List Value},StrsAre us ss→Vals (ss.map V.str) us
 | _,_,.nil=>.nil
 | _,_,.cons _ _ h=>.cons ⟨_,rfl⟩ (cG h)
theorem jm (x:Str):∀ {us:List Value} {ss:List Str},StrsAre us ss→us.any (fun y=>match y with | .str z _=>z == x | _=>false)=decide (x∈ss)
 | _,_,.nil=>rfl
 | _,_,.cons y t (vs:=us) (ys:=ss) h=>by
  rw [List.any_cons,jm x h]
  by_cases e:y=x
  ·subst e;simp
  ·have e2:¬ x=y:=fun z=>e z.symm
   simp [e,e2]
theorem nk {us:List Value} {ss:List Str} (h:StrsAre us ss):∀ y∈us,∃ z t,y=Value.str z t:=by
 induction h with
 | nil=>intro y hy;cases hy
 | cons z t h ih =>
  intro y hy
  rcases List.mem_cons.mp hy with rfl | hy
  ·exact⟨z,t,rfl⟩
  ·exact ih y hy
section
variable {X:Cx}
theorem o_in (hu:X.A.units + 64 < cLine):OpR X (compareOp .In) fun x y=>aS X.K (fIn id) [x,y]:=by
 intro pins s σ H x y v u Q I rx ry h
 obtain ⟨M,ds,R,m,rs,h,k⟩:=h
 have fin:∀ b s',Inv X pins σ H s'→R (.bl b)→EP X pins σ Q (.bool b) s':=fun b s' I' r=>⟨.bl b,H,I',rfl,k _ r _ H (Same.refl H) (Rep.sc rfl)⟩
 replace h:=uH h
 rcases h with ⟨_,_,_,rfl,h⟩ | ⟨x0,_,rfl,h⟩
 ·obtain ⟨h1,h2⟩:=b6 rs
  cases bu h1
  unfold Rep at h2
  obtain ⟨a,vs,rfl,_,e,l,r⟩:=h2
  cases ry
  refine d_in (by omega) I (DGet.k (k:=Sum.inr _) e) rx fun s' I'=>?_
  rw [fu,jD (by rw [l,Reps.length _ _ r])]
  exact fin _ _ I' h
 ·obtain ⟨ss,rfl,h⟩:=h
  obtain ⟨h1,h2⟩:=b6 rs
  cases bu h1
  unfold Rep at h2
  obtain ⟨a,vs,rfl,_,e,r⟩:=h2
  cases ry
  cases fA r
  obtain ⟨t,rfl⟩:=rx
  obtain ⟨its,rv,pl,_⟩:=I.list (SqL.of e)
  have hs:=d9 rv
  refine SeqAt.in_listAt (fun y=>match y with | .str z _=>z == x0 | _=>false) pl.isList (fun y hy=>?_) ?_
  ·obtain ⟨z,t',rfl⟩:=nk hs y (by simpa using hy)
   exact SeqAt.EqAt.str_str z t' x0 t
  ·rw [List.any_toArray,jm x0 hs]
   exact fin _ _ I h
theorem xE (hu:X.A.units + 64 < cLine):OpR X (compareOp .NotIn) fun x y=>aS X.K (fIn Bool.not) [x,y]:=by
 intro pins s σ H x y v u Q I rx ry h
 obtain ⟨M,ds,R,m,rs,h,k⟩:=h
 have fin:∀ b s',Inv X pins σ H s'→R (.bl b)→EP X pins σ Q (.bool b) s':=fun b s' I' r=>⟨.bl b,H,I',rfl,k _ r _ H (Same.refl H) (Rep.sc rfl)⟩
 replace h:=uH h
 rcases h with ⟨_,_,_,rfl,h⟩ | ⟨x0,_,rfl,h⟩
 ·obtain ⟨h1,h2⟩:=b6 rs
  cases bu h1
  unfold Rep at h2
  obtain ⟨a,vs,rfl,_,e,l,r⟩:=h2
  cases ry
  refine xg (by omega) I (DGet.k (k:=Sum.inr _) e) rx fun s' I'=>?_
  rw [fu,jD (by rw [l,Reps.length _ _ r])]
  exact fin _ _ I' h
 ·obtain ⟨ss,rfl,h⟩:=h
  obtain ⟨h1,h2⟩:=b6 rs
  cases bu h1
  unfold Rep at h2
  obtain ⟨a,vs,rfl,_,e,r⟩:=h2
  cases ry
  cases fA r
  obtain ⟨t,rfl⟩:=rx
  obtain ⟨its,rv,pl,_⟩:=I.list (SqL.of e)
  have hs:=d9 rv
  refine SeqAt.notIn_listAt (fun y=>match y with | .str z _=>z == x0 | _=>false) pl.isList (fun y hy=>?_) ?_
  ·obtain ⟨z,t',rfl⟩:=nk hs y (by simpa using hy)
   exact SeqAt.EqAt.str_str z t' x0 t
  ·rw [List.any_toArray,jm x0 hs]
   exact fin _ _ I h
def fNeq:List D→(D→Prop)→Prop
 | [.int i,.int j],R=>R (.bl (!decide (i=j)))
 | [.str x,.str y],R=>R (.bl (!decide (x=y)))
 | [.bl a,.bl b],R=>R (.bl (!decide (a=b)))
 | [.tup xs,.tup ys],R=>(xs=ys∧D.nds xs=true∧D.dps xs≤60)∧R (.bl false)
 | [.lst xs,.lst ys],R=>(xs=ys∧D.nds xs=true∧D.dps xs≤60)∧R (.bl false)
 | [.dct ks ds,.dct ks' ds'],R=>(ks=ks'∧ds=ds'∧ks.Nodup∧D.nds ds=true∧D.dps ds≤60)∧R (.bl false)
 | _,_=>False
theorem vL {d0:List D} {R:D→Prop} (h:fNeq d0 R):(∃ (i:Int) (j:Int),d0=[.int i,.int j]∧R (.bl (!decide (i=j))))∨(∃ (x:Str) (y:Str),d0=[.str x,.str y]∧R (.bl (!decide (x=y))))∨(∃ (a:Bool) (b:Bool),d0=[.bl a,.bl b]∧R (.bl (!decide (a=b))))∨(∃ (xs:List D) (ys:List D),d0=[.tup xs,.tup ys]∧(xs=ys∧D.nds xs=true∧D.dps xs≤60)∧R (.bl false))∨(∃ (xs:List D) (ys:List D),d0=[.lst xs,.lst ys]∧(xs=ys∧D.nds xs=true∧D.dps xs≤60)∧R (.bl false))∨(∃ (ks:List Str) (ds:List D) (ks':List Str) (ds':List D),d0=[.dct ks ds,.dct ks' ds']∧(ks=ks'∧ds=ds'∧ks.Nodup∧D.nds ds=true∧D.dps ds≤60)∧R (.bl false)):=by
 rcases d0 with _ | ⟨a,_ | ⟨b,_ | ⟨c,l⟩⟩⟩
 ·exact False.elim h
 ·cases a<;>exact False.elim h
 ·cases a<;>first | exact False.elim h | (cases b<;>first | exact False.elim h | exact .inl ⟨_,_,rfl,h⟩ | exact .inr (.inl ⟨_,_,rfl,h⟩) | exact .inr (.inr (.inl ⟨_,_,rfl,h⟩)) | exact .inr (.inr (.inr (.inl ⟨_,_,rfl,h⟩))) | exact .inr (.inr (.inr (.inr (.inl ⟨_,_,rfl,h⟩)))) | exact .inr (.inr (.inr (.inr (.inr ⟨_,_,_,_,rfl,h⟩)))))
 ·cases a<;>first | exact False.elim h | (cases b<;>exact False.elim h)
theorem sW {i j:Int} {R:D→Prop}:fNeq [.int i,.int j] R↔R (.bl (!decide (i=j))):=Iff.rfl
theorem uD {i j:Str} {R:D→Prop}:fNeq [.str i,.str j] R↔R (.bl (!decide (i=j))):=Iff.rfl
theorem vH {i j:Bool} {R:D→Prop}:fNeq [.bl i,.bl j] R↔R (.bl (!decide (i=j))):=Iff.rfl
theorem um {xs ys:List D} {R:D→Prop}:fNeq [.tup xs,.tup ys] R↔(xs=ys∧D.nds xs=true∧D.dps xs≤60)∧R (.bl false):=Iff.rfl
theorem t3 {xs ys:List D} {R:D→Prop}:fNeq [.lst xs,.lst ys] R↔(xs=ys∧D.nds xs=true∧D.dps xs≤60)∧R (.bl false):=Iff.rfl
theorem uE {ks ks':List Str} {ds ds':List D} {R:D→Prop}:fNeq [.dct ks ds,.dct ks' ds'] R↔(ks=ks'∧ds=ds'∧ks.Nodup∧D.nds ds=true∧D.dps ds≤60)∧R (.bl false):=Iff.rfl
theorem qF {A:Around} {s:Shared}:∀ (kb:List (Key×Value)) (ka:List (Key×Value)),(∀ (j:Nat) k v,ka[j]?=some (k,v)→∃ y,valueAt kb k=some y∧SeqAt.EqAt A s v y true)→PySem.W.KeqHits A s kb ka true
 | kb,[],_=>.nil
 | kb,(k,v) :: r,h=>by
  obtain ⟨y,hy,he⟩:=h 0 k v rfl
  have q:=PySem.W.KeqHits.hit hy he (qF kb r fun j k' v' e=>h (j + 1) k' v' (by simpa using e))
  exact q
theorem oW {kb:List (Key×Value)} (hn:(kb.map (·.1)).Nodup) {j:Nat} {k:Key} {y:Value} (e:kb[j]?=some (k,y)):valueAt kb k=some y:=by
 induction kb generalizing j with
 | nil=>simp at e
 | cons p r ih =>
  rw [List.map_cons,List.nodup_cons] at hn
  cases j with
  | zero=>simp at e;subst e;simp [valueAt]
  | succ j =>
   have e':r[j]?=some (k,y):=by simpa using e
   have ne:¬ p.1=k:=fun z=>hn.1 (by rw [z];exact List.mem_map.mpr ⟨(k,y),List.mem_of_getElem? e',rfl⟩)
   have q:=ih hn.2 e'
   unfold valueAt at q ⊢
   rw [List.find?_cons]
   simp only [ne,decide_false]
   exact q
theorem ix {α β:Type} {F:α→β→Prop}:∀ {l₁:List α} {l₂:List β} {j:Nat} {b:β},Paired F l₁ l₂→l₂[j]?=some b→∃ a,l₁[j]?=some a∧F a b
 | _,_,_,_,.nil,e=>by simp at e
 | _,_,0,_,.cons h t,e=>by simp at e;subst e;exact⟨_,rfl,h⟩
 | _,_,j + 1,_,.cons h t,e=>by
  obtain ⟨a,q,f⟩:=ix (j:=j) t (by simpa using e)
  exact⟨a,by simpa using q,f⟩
theorem qe {α β:Type} {F:α→β→Prop}:∀ {l₁:List α} {l₂:List β} {j:Nat} {a:α},Paired F l₁ l₂→l₁[j]?=some a→∃ b,l₂[j]?=some b∧F a b
 | _,_,_,_,.nil,e=>by simp at e
 | _,_,0,_,.cons h t,e=>by simp at e;subst e;exact⟨_,rfl,h⟩
 | _,_,j + 1,_,.cons h t,e=>by
  obtain ⟨a,q,f⟩:=qe (j:=j) t (by simpa using e)
  exact⟨a,by simpa using q,f⟩
theorem qz:∀ {ds:List D} {j:Nat} {d:D},D.nds ds=true→ds[j]?=some d→d.nd=true
 | [],_,_,_,e=>by simp at e
 | x :: r,0,d,h,e=>by
  simp at e;subst e
  unfold D.nds at h
  exact (Bool.and_eq_true_iff.mp h).1
 | x :: r,j + 1,d,h,e=>by
  unfold D.nds at h
  exact qz (j:=j) (Bool.and_eq_true_iff.mp h).2 (by simpa using e)
theorem rF:∀ {ds:List D} {j:Nat} {d:D},ds[j]?=some d→d.dp≤D.dps ds
 | [],_,_,e=>by simp at e
 | x :: r,0,d,e=>by
  simp at e;subst e
  unfold D.dps
  exact Nat.le_max_left _ _
 | x :: r,j + 1,d,e=>by
  unfold D.dps
  exact Nat.le_trans (rF (j:=j) (by simpa using e)) (Nat.le_max_right _ _)
theorem jr {ks:List Str} {vs:List V} {j:Nat} {k:Key} {v:V} (e:(aP ks vs)[j]?=some (k,v)):∃ x,k=Sum.inr x∧ks[j]?=some x∧vs[j]?=some v:=by
 unfold aP at e
 rw [List.getElem?_zip_eq_some] at e
 obtain ⟨e1,e2⟩:=e
 rw [List.getElem?_map] at e1
 cases h:ks[j]? with
 | none=>rw [h] at e1;cases e1
 | some x=>rw [h] at e1;exact⟨x,(Option.some.inj e1).symm,rfl,e2⟩
theorem Ae {ks:List Str} {vs:List V} {j:Nat} {x:Str} {v:V} (e1:ks[j]?=some x) (e2:vs[j]?=some v):(aP ks vs)[j]?=some (Sum.inr x,v):=by
 unfold aP
 rw [List.getElem?_zip_eq_some]
 exact⟨by rw [List.getElem?_map,e1];rfl,e2⟩
theorem m8 {pins:List (Addr×Obj)} {σ:L2.St} {H:Hp} {s:Shared} {M:Addr→Prop} {A:Around} {ks:List Str} {ds:List D} {vs ws:List V} {va vb:List (Key×Value)} (I:L2.Inv X pins σ H s) (nd:ks.Nodup) (hn:D.nds ds=true) (hd:A.units + D.dps ds < cLine) (l1:ks.length=ds.length)
  (rs1:Reps X.K M H ds vs) (rs2:Reps X.K M H ds ws) (ra:KV (aP ks vs) va) (rb:KV (aP ks ws) vb):PySem.W.KeqHits A s vb va true:=by
 have lw:=Reps.length _ _ rs2
 have hkb:(vb.map (·.1)).Nodup:=by
  rw [← rb.keys]
  have:(aP ks ws).map (·.1)=ks.map Sum.inr:=by unfold aP;rw [List.map_fst_zip (by rw [List.length_map];omega)]
  rw [this]
  exact List.Pairwise.map _ (fun a b ne z=>ne (Sum.inr.inj z)) nd
 refine qF vb va fun j k1 v1 e1=>?_
 obtain ⟨⟨k2,v2⟩,q1,z1,z2⟩:=ix ra e1
 obtain ⟨x,rfl,kx,vx⟩:=jr q1
 simp only at z1 z2
 subst z1
 have hj:j < ds.length:=by rw [← l1];exact (List.getElem?_eq_some_iff.mp kx).1
 have ed:ds[j]?=some ds[j]:=by simp [hj]
 obtain ⟨v',ev,rv⟩:=Reps.get _ _ rs1 j _ ed
 rw [vx] at ev
 cases ev
 obtain ⟨w',ew,rw'⟩:=Reps.get _ _ rs2 j _ ed
 obtain ⟨⟨k3,y⟩,qy,y1,y2⟩:=qe rb (Ae kx ew)
 simp only at y1 y2
 subst y1
 exact⟨y,oW hkb qy,uT I ds[j] A v2 w' v1 y (qz hn ed) (by have:=rF ed;omega) rv rw' z2 y2⟩
theorem fQ (hu:X.A.units + 64 < cLine):OpR X (compareOp .NotEq) fun x y=>aS X.K fNeq [x,y]:=by
 intro pins s σ H x y v u Q I rx ry h
 obtain ⟨M,ds,R,m,rs,h,k⟩:=h
 have fin:∀ b,R (.bl b)→EP X pins σ Q (.bool b) s:=fun b r=>⟨.bl b,H,I,rfl,k _ r _ H (Same.refl H) (Rep.sc rfl)⟩
 replace h:=vL h
 rcases h with ⟨_,_,rfl,h⟩ | ⟨_,_,rfl,h⟩ | ⟨_,_,rfl,h⟩ | ⟨_,_,rfl,h⟩ | ⟨_,_,rfl,h⟩ | ⟨_,_,_,_,rfl,h⟩
 ·exact o_ne hu pins s σ H x y v u Q I rx ry ⟨M,_,R,m,rs,h,k⟩
 ·exact o_ne hu pins s σ H x y v u Q I rx ry ⟨M,_,R,m,rs,h,k⟩
 ·exact o_ne hu pins s σ H x y v u Q I rx ry ⟨M,_,R,m,rs,h,k⟩
 ·obtain ⟨⟨e,hn,hd⟩,h⟩:=h
  subst e
  obtain ⟨h1,h2⟩:=b6 rs
  unfold Rep at h1 h2
  obtain ⟨a,vs,rfl,sq,rs1⟩:=h1
  obtain ⟨b,ws,rfl,sq',rs2⟩:=h2
  cases rx
  cases ry
  obtain ⟨its,r1,t1,_⟩:=I.tuple sq
  obtain ⟨its',r2,t2,_⟩:=I.tuple sq'
  have hs:its.length=its'.length:=by rw [← r1.length,← r2.length,← Reps.length _ _ rs1,← Reps.length _ _ rs2]
  refine SeqAt.RcNeAt.tuples (e:=fun _=>true) t1 t2 (by omega) (eqAt_Ds I _ X.A.in1 vs ws its its' hn (by rw [bg];omega) rs1 rs2 r1 r2) _ _ _ _ ?_
  have z:((List.range (min its.toArray.size its'.toArray.size)).all (fun _=>true) && its.toArray.size == its'.toArray.size)=true:=by simp [hs]
  rw [z]
  exact fin _ h
 ·obtain ⟨⟨e,hn,hd⟩,h⟩:=h
  subst e
  obtain ⟨h1,h2⟩:=b6 rs
  unfold Rep at h1 h2
  obtain ⟨a,vs,rfl,_,sq,rs1⟩:=h1
  obtain ⟨b,ws,rfl,_,sq',rs2⟩:=h2
  cases rx
  cases ry
  obtain ⟨its,r1,t1,_⟩:=I.list (SqL.of sq)
  obtain ⟨its',r2,t2,_⟩:=I.list (SqL.of sq')
  have hs:its.length=its'.length:=by rw [← r1.length,← r2.length,← Reps.length _ _ rs1,← Reps.length _ _ rs2]
  refine SeqAt.RcNeAt.lists (e:=fun _=>true) t1.isList t2.isList (by simp [hs]) (by omega) (eqAt_Ds I _ X.A.in1 vs ws its its' hn (by rw [bg];omega) rs1 rs2 r1 r2) _ _ _ _ ?_
  rw [gu]
  exact fin _ h
 ·obtain ⟨⟨e,e2,nd,hn,hd⟩,h⟩:=h
  subst e e2
  obtain ⟨h1,h2⟩:=b6 rs
  unfold Rep at h1 h2
  obtain ⟨a,vs,rfl,_,sq,l1,rs1⟩:=h1
  obtain ⟨b,ws,rfl,_,sq',l2,rs2⟩:=h2
  cases rx
  cases ry
  obtain ⟨_,lo,va,ra,da⟩:=oz I.hok sq
  obtain ⟨_,lo',vb,rb,db⟩:=oz I.hok sq'
  have lv:=Reps.length _ _ rs1
  have lw:=Reps.length _ _ rs2
  have la:=ra.length
  have lb:=rb.length
  refine PySem.W.keq_ne (r:=true) lo lo' da db (by omega) (fun _=>m8 I nd hn (by rw [bg];omega) l1 rs1 rs2 ra rb) ?_
  have e3:va.length=vb.length:=by
   rw [← la,← lb]
   unfold aP
   rw [List.length_zip,List.length_zip,← lv,← lw]
  have:(va.length == vb.length)=true:=by rw [e3];simp
  rw [this]
  exact fin _ h
end
end DL
namespace DL
open PySem PySem.Spec PyProof.Rows L2
section
variable {prog:Program} {w:World} {A:Around} {E:Value→Shared→Prop} {s:Shared}
theorem iR {a:Addr} {vs:List Value} {ss:List Str} {n:Nat} {Q:Value→Shared→Prop} (ho:s.heap.get? a=some (seqObj "list" vs.toArray n)) (hS:StrsAre vs ss) (h64:vs.length < 64)
  (h:∀ (out:Array Value) (ss':List Str),StrsAre out.toList ss'→ss'.Perm ss→sortedS ss'=true→Q .none { s with heap:=sortedHeap s.heap a vs out }) :
  wpAny (model prog w) A (call (.builtin "list.sort") [.ref a]) Q E s:=by
 refine wpAny_call_entry slot_list_sort ⟨_,ho,rfl⟩ entry_list_sort (list_sort_treeK strKind_oneLt ho hS.keysOf (fun v₁ v₂ rest e=>keyKind_strs (by rw [← e];exact hS)) h64 fun st' hp hs=>?_) (args_list_sort _)
 obtain ⟨ss',h1,h2,h3⟩:=sorted_out_str hS hp hs
 exact⟨_,rfl,h _ ss' h1 h2 h3⟩
end
abbrev Srt (ss:List Str):Prop:=sortedS ss=true
def iq:List D→(D→Prop)→Prop
 | [.lst ds],R=>∃ ss:List Str,ds=ss.map D.str∧ss.length < 64∧∀ ss',ss'.Perm ss→Srt ss'→R (.lst (ss'.map D.str))
 | [.dct ks _],R=>ks.length < 64∧∀ ss',ss'.Perm ks→Srt ss'→R (.lst (ss'.map D.str))
 | [.fd ks _],R=>ks.length < 64∧∀ ss',ss'.Perm ks→Srt ss'→R (.lst (ss'.map D.str))
 | _,_=>False
theorem n5 {d0:List D} {R:D→Prop} (h:iq d0 R):(∃ (ds:List D),d0=[.lst ds]∧∃ ss:List Str,ds=ss.map D.str∧ss.length < 64∧∀ ss',ss'.Perm ss→Srt ss'→R (.lst (ss'.map D.str)))∨(∃ (ks:List Str) (z1:List D),d0=[.dct ks z1]∧ks.length < 64∧∀ ss',ss'.Perm ks→Srt ss'→R (.lst (ss'.map D.str)))∨(∃ (ks:List Str) (z1:List D),d0=[.fd ks z1]∧ks.length < 64∧∀ ss',ss'.Perm ks→Srt ss'→R (.lst (ss'.map D.str))):=by
 rcases d0 with _ | ⟨a,_ | ⟨b,l⟩⟩
 ·exact False.elim h
 ·cases a<;>first | exact False.elim h | exact .inl ⟨_,rfl,h⟩ | exact .inr (.inl ⟨_,_,rfl,h⟩) | exact .inr (.inr ⟨_,_,rfl,h⟩)
 ·cases a<;>exact False.elim h
theorem lZ {ds:List D} {R:D→Prop}:iq [.lst ds] R↔∃ ss:List Str,ds=ss.map D.str∧ss.length < 64∧∀ ss',ss'.Perm ss→Srt ss'→R (.lst (ss'.map D.str)):=Iff.rfl
theorem pf {ks:List Str} {ds:List D} {R:D→Prop}:iq [.fd ks ds] R↔ks.length < 64∧∀ ss',ss'.Perm ks→Srt ss'→R (.lst (ss'.map D.str)):=Iff.rfl
theorem lT {ks:List Str} {ds:List D} {R:D→Prop}:iq [.dct ks ds] R↔ks.length < 64∧∀ ss',ss'.Perm ks→Srt ss'→R (.lst (ss'.map D.str)):=Iff.rfl
def AD:List D→(D→Prop)→Prop
 | [.dct ks ds],R=>R (.dct ks ds)
 | _,_=>False
theorem qr {ks:List Str} {ds:List D} {R:D→Prop}:AD [.dct ks ds] R↔R (.dct ks ds):=Iff.rfl
theorem iu {P:Program} {w:World}:∀ {ks:List Str} {us:List Value},ks.length=us.length→(∀ (j:Nat) v k,us[j]?=some v→ks[j]?=some k→(aZ P w).is (Sum.inr k) v=true)→StrsAre us ks
 | [],[],_,_=>.nil
 | [],_ :: _,l,_=>by cases l
 | _ :: _,[],l,_=>by cases l
 | k :: ks,u :: us,l,h=>by
  have h0:=h 0 u k rfl rfl
  obtain ⟨t,rfl⟩:∃ t,u=Value.str k t:=by
   have:lg (Sum.inr k) u=true:=h0
   rcases aY this with ⟨i,t,e,_⟩ | ⟨x,t,e,e2⟩
   ·cases e
   ·cases e;exact⟨t,e2⟩
  exact .cons _ _ (iu (Nat.succ.inj l) fun j v k' e1 e2=>h (j + 1) v k' (by simpa using e1) (by simpa using e2))
section
variable {X:Cx}
theorem de (hc:X.calm=true):cc X (.builtin "sorted") (aS X.K iq):=by
 intro pins s σ H xs us Q I rv h
 obtain ⟨M,ds,R,m,rs,h,k⟩:=h
 replace h:=n5 h
 rcases h with ⟨_,rfl,h⟩ | ⟨_,_,rfl,h⟩ | ⟨_,_,rfl,h⟩
 ·obtain ⟨ss,rfl,h64,h⟩:=h
  obtain ⟨x,rfl,q⟩:=be rs
  unfold Rep at q
  obtain ⟨a,vs,rfl,_,e,r⟩:=q
  obtain ⟨u,rfl,ru⟩:=ge rv
  cases ru
  cases fA r
  obtain ⟨its,rv2,pl,_⟩:=I.list (SqL.of e)
  have hs:=d9 rv2
  have hl:its.length=ss.length:=by rw [← rv2.length,List.length_map]
  refine sorted_strs pl.isList hs (by omega) fun out ss' h1 h2 h3=>?_
  obtain ⟨ep,he⟩:=sortedAll_at s.heap its out
  have hz:(ss'.map V.str).length≤sizeLine:=by rw [List.length_map,h2.length_eq];exact ej (by omega)
  have I2:L2.Inv X pins σ (upd H (s.heap.objs.size + 1) (.lst (ss'.map V.str))) { s with heap:=sortedAll s.heap its out } :=
   I.laid (t':=s.toks) (fun b o=>sortedAll_old) (Nat.le_succ _) (show bH X.prog X.w _ _ _ (.lst (ss'.map V.str)) from ⟨hz,out.toList,ep,cG h1,he⟩)
  have fr:H (s.heap.objs.size + 1)=none:=I.hok.fresh (Nat.le_succ _)
  refine⟨.ref _,_,I2,rfl,k _ (h ss' h2 h3) _ _ (aD fr _) ?_⟩
  unfold Rep
  exact⟨_,_,rfl,fun z=>m _ z fr,aq,cJ ss'⟩
 ·obtain ⟨h64,h⟩:=h
  rename_i ks ds
  obtain ⟨x,rfl,q⟩:=be rs
  unfold Rep at q
  obtain ⟨a,vs,rfl,_,e,l,r⟩:=q
  obtain ⟨u,rfl,ru⟩:=ge rv
  cases ru
  obtain ⟨hz,lo,va,ra,da⟩:=oz I.hok e
  obtain ⟨ep,hat⟩:=da.dictAt
  have lv:=Reps.length _ _ r
  have hlen:va.length=ks.length:=by
   rw [← ra.length]
   unfold aP
   rw [List.length_zip,List.length_map];omega
  refine Calls.call_function_entry kind_sorted plain_sorted entry_sorted (args_sorted1 _) ?_
  unfold Builtin.«sorted»
  refine wpAny_bind (m:=checkCount "sorted" 1 1 _) (wpAny_pure ?_)
  refine wpAny_bind (PySem.W.kdu_collect (A:=X.A.in1) (PySem.W.kdl_dict (knd:=aZ X.prog X.w) (kvs:=va) (ep:=ep) lo) (I.ok.hd hc) hat (by rw [hlen];exact ej (by omega)) fun h' tk acc hk hacc=>?_)
  have hl:acc.toList.length=ks.length:=by rw [Array.length_toList,← hlen];exact hacc.1
  have hS:StrsAre acc.toList ks:=iu hl.symm fun j v k' e1 e2=>by
   obtain ⟨k2,x2,h1,h2⟩:=hacc.2 j v (by rw [← Array.getElem?_toList];exact e1)
   obtain ⟨⟨k3,v3⟩,q1,z1,_⟩:=ix ra h1
   obtain ⟨x,rfl,kx,_⟩:=jr q1
   simp only at z1
   rw [kx] at e2
   cases e2
   rw [z1]
   exact h2
  refine wpAny_bind (wpAny_newList ?_ (by rw [hl];exact ej (by omega)))
  have hoL:(h'.push { cls:=.type "list",data:=.seq acc.toList.toArray }).get? h'.objs.size=some (seqObj "list" acc.toList.toArray 0):=Heap.get?_push_size _ rfl
  refine wpAny_bind (wpAny_holding (iR hoL hS (by omega) fun out ss' h1 h2 h3=>?_))
  refine wpAny_pure ⟨_,rfl,?_⟩
  obtain ⟨ep2,he⟩:=sortedHeap_at (out:=out) hoL
  have I1:L2.Inv X pins σ H { s with heap:=h',toks:=tk }:=I.kept (t':=tk) hk
  have kp:∀ b o,h'.get? b=some o→(sortedHeap (h'.push { cls:=.type "list",data:=.seq acc.toList.toArray }) h'.objs.size acc.toList out).get? b=some o:=fun b o e=>by
   have hb:=Heap.lt_size e
   rw [sortedHeap_old (Nat.ne_of_lt hb) (by rw [Heap.size_push];exact Nat.lt_succ_of_lt hb)]
   exact Heap.get?_push_of_some _ e
  have hz2:(ss'.map V.str).length≤sizeLine:=by rw [List.length_map,h2.length_eq];exact ej (by omega)
  have I2:L2.Inv X pins σ (upd H h'.objs.size (.lst (ss'.map V.str))) { s with heap:=sortedHeap (h'.push { cls:=.type "list",data:=.seq acc.toList.toArray }) h'.objs.size acc.toList out,toks:=tk } :=
   I1.laid (t':=tk) kp (Nat.le_refl _) (show bH X.prog X.w _ _ _ (.lst (ss'.map V.str)) from ⟨hz2,out.toList,ep2,cG h1,he⟩)
  have fr:H h'.objs.size=none:=I1.hok.fresh (Nat.le_refl _)
  refine⟨.ref _,_,I2,rfl,k _ (h ss' h2 h3) _ _ (aD fr _) ?_⟩
  unfold Rep
  exact⟨_,_,rfl,fun z=>m _ z fr,aq,cJ ss'⟩
 ·obtain ⟨h64,h⟩:=h
  rename_i ks ds
  obtain ⟨x,rfl,q⟩:=be rs
  unfold Rep at q
  obtain ⟨a,vs,o9,rfl,e,l,r⟩:=q
  obtain ⟨u,rfl,ru⟩:=ge rv
  cases ru
  obtain ⟨hz,lo,va,ra,da⟩:=fP I.hok (.inr ⟨o9,e⟩)
  obtain ⟨ep,hat⟩:=da.dictAt
  have lv:=Reps.length _ _ r
  have hlen:va.length=ks.length:=by
   rw [← ra.length]
   unfold aP
   rw [List.length_zip,List.length_map];omega
  refine Calls.call_function_entry kind_sorted plain_sorted entry_sorted (args_sorted1 _) ?_
  unfold Builtin.«sorted»
  refine wpAny_bind (m:=checkCount "sorted" 1 1 _) (wpAny_pure ?_)
  refine wpAny_bind (PySem.W.kdu_collect (A:=X.A.in1) (PySem.W.kdl_dict (knd:=aZ X.prog X.w) (kvs:=va) (ep:=ep) lo) (I.ok.hd hc) hat (by rw [hlen];exact ej (by omega)) fun h' tk acc hk hacc=>?_)
  have hl:acc.toList.length=ks.length:=by rw [Array.length_toList,← hlen];exact hacc.1
  have hS:StrsAre acc.toList ks:=iu hl.symm fun j v k' e1 e2=>by
   obtain ⟨k2,x2,h1,h2⟩:=hacc.2 j v (by rw [← Array.getElem?_toList];exact e1)
   obtain ⟨⟨k3,v3⟩,q1,z1,_⟩:=ix ra h1
   obtain ⟨x,rfl,kx,_⟩:=jr q1
   simp only at z1
   rw [kx] at e2
   cases e2
   rw [z1]
   exact h2
  refine wpAny_bind (wpAny_newList ?_ (by rw [hl];exact ej (by omega)))
  have hoL:(h'.push { cls:=.type "list",data:=.seq acc.toList.toArray }).get? h'.objs.size=some (seqObj "list" acc.toList.toArray 0):=Heap.get?_push_size _ rfl
  refine wpAny_bind (wpAny_holding (iR hoL hS (by omega) fun out ss' h1 h2 h3=>?_))
  refine wpAny_pure ⟨_,rfl,?_⟩
  obtain ⟨ep2,he⟩:=sortedHeap_at (out:=out) hoL
  have I1:L2.Inv X pins σ H { s with heap:=h',toks:=tk }:=I.kept (t':=tk) hk
  have kp:∀ b o,h'.get? b=some o→(sortedHeap (h'.push { cls:=.type "list",data:=.seq acc.toList.toArray }) h'.objs.size acc.toList out).get? b=some o:=fun b o e=>by
   have hb:=Heap.lt_size e
   rw [sortedHeap_old (Nat.ne_of_lt hb) (by rw [Heap.size_push];exact Nat.lt_succ_of_lt hb)]
   exact Heap.get?_push_of_some _ e
  have hz2:(ss'.map V.str).length≤sizeLine:=by rw [List.length_map,h2.length_eq];exact ej (by omega)
  have I2:L2.Inv X pins σ (upd H h'.objs.size (.lst (ss'.map V.str))) { s with heap:=sortedHeap (h'.push { cls:=.type "list",data:=.seq acc.toList.toArray }) h'.objs.size acc.toList out,toks:=tk } :=
   I1.laid (t':=tk) kp (Nat.le_refl _) (show bH X.prog X.w _ _ _ (.lst (ss'.map V.str)) from ⟨hz2,out.toList,ep2,cG h1,he⟩)
  have fr:H h'.objs.size=none:=I1.hok.fresh (Nat.le_refl _)
  refine⟨.ref _,_,I2,rfl,k _ (h ss' h2 h3) _ _ (aD fr _) ?_⟩
  unfold Rep
  exact⟨_,_,rfl,fun z=>m _ z fr,aq,cJ ss'⟩
def nR:List D→(D→Prop)→Prop
 | [.lst xs],R=>R (.tup xs)
 | [.fz xs],R=>R (.tup xs)
 | [.tup xs],R=>R (.tup xs)
 | _,_=>False
theorem rE {d0:List D} {R:D→Prop} (h:nR d0 R):(∃ (xs:List D),d0=[.lst xs]∧R (.tup xs))∨(∃ (xs:List D),d0=[.fz xs]∧R (.tup xs))∨(∃ (xs:List D),d0=[.tup xs]∧R (.tup xs)):=by
 rcases d0 with _ | ⟨a,_ | ⟨b,l⟩⟩
 ·exact False.elim h
 ·cases a<;>first | exact False.elim h | exact .inl ⟨_,rfl,h⟩ | exact .inr (.inl ⟨_,rfl,h⟩) | exact .inr (.inr ⟨_,rfl,h⟩)
 ·cases a<;>exact False.elim h
theorem pd {xs:List D} {R:D→Prop}:nR [.lst xs] R↔R (.tup xs):=Iff.rfl
theorem oR {xs:List D} {R:D→Prop}:nR [.tup xs] R↔R (.tup xs):=Iff.rfl
theorem jG:cc X (.type "tuple") (aS X.K nR) :=
 cc.imp fD fun xs H Q ⟨M,ds,R,m,rs,h,k⟩=>by
  replace h:=rE h
  rcases h with ⟨_,rfl,h⟩ | ⟨_,rfl,h⟩ | ⟨_,rfl,h⟩
  ·obtain ⟨x,rfl,q⟩:=be rs
   unfold Rep at q
   obtain ⟨a,vs,rfl,_,e,r⟩:=q
   refine⟨a,vs,rfl,.inl ⟨SqL.of e,fun l hl=>k _ h _ _ (aD hl _) ?_⟩⟩
   unfold Rep
   exact⟨l,vs,rfl,SqT.of aq,Reps.kp (Kp.of_same (aD hl _)) _ _ r⟩
  ·obtain ⟨x,rfl,q⟩:=be rs
   unfold Rep at q
   obtain ⟨a,vs,rfl,e,r⟩:=q
   refine⟨a,vs,rfl,.inl ⟨e.seq,fun l hl=>k _ h _ _ (aD hl _) ?_⟩⟩
   unfold Rep
   exact⟨l,vs,rfl,SqT.of aq,Reps.kp (Kp.of_same (aD hl _)) _ _ r⟩
  ·obtain ⟨x,rfl,q⟩:=be rs
   have q0:=q
   unfold Rep at q
   obtain ⟨a,vs,rfl,e,r⟩:=q
   exact⟨a,vs,rfl,.inr ⟨e,k _ h _ _ (Same.refl H) q0⟩⟩
def sK:List D→(D→Prop)→Prop
 | [.lst xs],R=>R (.lst xs)
 | [.fz xs],R=>R (.lst xs)
 | [.tup xs],R=>R (.lst xs)
 | _,_=>False
theorem uz {d0:List D} {R:D→Prop} (h:sK d0 R):(∃ (xs:List D),d0=[.lst xs]∧R (.lst xs))∨(∃ (xs:List D),d0=[.fz xs]∧R (.lst xs))∨(∃ (xs:List D),d0=[.tup xs]∧R (.lst xs)):=by
 rcases d0 with _ | ⟨a,_ | ⟨b,l⟩⟩
 ·exact False.elim h
 ·cases a<;>first | exact False.elim h | exact .inl ⟨_,rfl,h⟩ | exact .inr (.inl ⟨_,rfl,h⟩) | exact .inr (.inr ⟨_,rfl,h⟩)
 ·cases a<;>exact False.elim h
theorem qT {xs:List D} {R:D→Prop}:sK [.lst xs] R↔R (.lst xs):=Iff.rfl
theorem qj {xs:List D} {R:D→Prop}:sK [.tup xs] R↔R (.lst xs):=Iff.rfl
theorem yx:cc X (.type "list") (aS X.K sK) :=
 cc.imp kS fun xs H Q ⟨M,ds,R,m,rs,h,k⟩=>by
  have fin:∀ (ds:List D) (vs:List V),R (.lst ds)→Reps X.K M H ds vs→∀ l,H l=none→Q (.ref l) (upd H l (.lst vs)):=fun ds vs h r l hl=>k _ h _ _ (aD hl _) (by
   unfold Rep
   exact⟨l,vs,rfl,fun z=>m l z hl,aq,Reps.kp (Kp.of_same (aD hl _)) _ _ r⟩)
  replace h:=uz h
  rcases h with ⟨_,rfl,h⟩ | ⟨_,rfl,h⟩ | ⟨_,rfl,h⟩
  ·obtain ⟨x,rfl,q⟩:=be rs
   unfold Rep at q
   obtain ⟨a,vs,rfl,_,e,r⟩:=q
   exact⟨a,vs,rfl,.inl (SqL.of e),fin _ _ h r⟩
  ·obtain ⟨x,rfl,q⟩:=be rs
   unfold Rep at q
   obtain ⟨a,vs,rfl,e,r⟩:=q
   exact⟨a,vs,rfl,.inl e.seq,fin _ _ h r⟩
  ·obtain ⟨x,rfl,q⟩:=be rs
   unfold Rep at q
   obtain ⟨a,vs,rfl,e,r⟩:=q
   exact⟨a,vs,rfl,.inr e,fin _ _ h r⟩
theorem nu {pos:Pos}:DE X (.Dict [] [] pos) (dC (.dct [] [])) :=
 PE.imp nZ fun σ H Q ⟨G,δ,P,R,⟨A,x⟩,r,k,_⟩=>fun p hp=>by
  refine k _ δ r (.ref p) _ ⟨A,(x.same (aD hp (.dK []))).push ?_⟩
  unfold Rep
  exact⟨p,[],rfl,fun z=>x.mem p z hp,aq,rfl,Reps.nil⟩
variable {a b e:Expr} {ta tb:TDE} {pos:Pos}
theorem cT (hu:X.A.units + 64 < cLine) (ha:DE X a ta) (hb:DE X b tb) (hs:NoSl b):DE X (.Subscript a b pos) (dOp tM ta tb) :=
 PE.imp (xi (by omega) ha hb hs) fun σ H Q ⟨G,δ,P,R,s,h,k,_⟩=>up.mk s h fun x δ1 h1 v H1 s1=>up.mk s1 h1 fun y δ2 h2 u H2 s2=>by
  replace h2:=tQ h2
  rcases h2 with ⟨ks,ds,z,eq,h2⟩ | ⟨ks,ds,z,eq,h2⟩
  ·skip
   cases eq
   obtain ⟨d,ed,r⟩:=h2
   obtain ⟨A,q⟩:=id s2
   have p1:=q.pnd (.dct ks ds,v) (by simp)
   have p2:u=.str z:=bu (q.pnd (.str z,u) (by simp))
   unfold Rep at p1
   obtain ⟨a,vs,rfl,_,he,l,rs⟩:=p1
   obtain ⟨w',hw,rw'⟩:=(Reps.dAt z ks ds vs rs).1 d ed
   refine⟨a,w',rfl,?_,k d δ2 r w' H2 ⟨A,(q.sub (P':=P) fun p hp=>by simp [hp]).push rw'⟩⟩
   have g:=DGet.k (k:=Sum.inr z) he
   rw [fu,hw] at g
   rw [p2]
   exact g
  ·skip
   cases eq
   obtain ⟨d,ed,r⟩:=h2
   obtain ⟨A,q⟩:=id s2
   have p1:=q.pnd (.fd ks ds,v) (by simp)
   have p2:u=.str z:=bu (q.pnd (.str z,u) (by simp))
   unfold Rep at p1
   obtain ⟨a,vs,o,rfl,he,l,rs⟩:=p1
   obtain ⟨w',hw,rw'⟩:=(Reps.dAt z ks ds vs rs).1 d ed
   refine⟨a,w',rfl,?_,k d δ2 r w' H2 ⟨A,(q.sub (P':=P) fun p hp=>by simp [hp]).push rw'⟩⟩
   have g:DGet H2 a (kV (Sum.inr z)) (valV (aP ks vs) (Sum.inr z)):=.inl ⟨_,_,.inr ⟨o,he⟩,rfl,rfl⟩
   rw [fu,hw] at g
   rw [p2]
   exact g
def yd (i:Nat) (tv tk:TDE):TDS:=fun R δ=>tv δ (wd fun x δ1=>∃ a ks ds,δ1[i]?=some (.own a (.dct ks ds))∧tk δ1 (wd fun z δ2=>∃ ks ds y,δ2[i]?=some (.own a (.dct ks ds))∧z=.str y∧ks.length < 9000∧R.nx (δ2.set i (.own a (.dct (kPut ks y) (vPut ks ds y x))))))
theorem dL (i:Nat) {y:Str} {p pos':Pos} (hu:X.A.units + 64 < cLine) (he:DE X e ta) (hb:DE X b tb) (hN:X.N[i]?=some y:=by rfl) (hv:Vis X.env.scope y:=by walk_at "v3")
  (hd:(y == ("__debug__":Str))=false:=by decide) (hcd:(y == ("__classdict__":Str))=false:=by decide) (hs:swapsWith e (some (.Subscript (.Name y p) b pos')) pos.line X.env=pure false:=by rfl) :
  DS X (.Assign [.Subscript (.Name y p) b pos'] e pos) (yd i ta tb) :=
 PS.imp (wo (by omega) (cE hN hv hd hcd) hb he hs) fun E σ H ⟨G,δ,P,R,s,h,k,_⟩=>up.mk s h fun x δ1 ⟨a,ks0,ds0,hi0,h1⟩ v H1 s1=>⟨.ref a,s1.own hi0,up.mk s1 h1 fun z δ2 ⟨ks,ds,y,hi,ez,hz,r⟩ u H2 ⟨A,q⟩=>by
  subst ez
  obtain ⟨_,aa,vs,hvs,l,rs⟩:=q.own i a _ hi
  have lv:=Reps.length _ _ rs
  have p2:u=.str y:=bu (q.pnd (.str y,u) (by simp))
  have hlen:(aP ks vs).length < sizeLine:=by
   unfold aP
   rw [List.length_zip,List.length_map]
   exact gU (by omega)
  have g:=DPut.k (k:=Sum.inr y) (v:=v) hvs hlen
  rw [we y v (by omega)] at g
  refine⟨a,_,rfl,by rw [p2];exact g,k _ r _ _ ⟨A,(q.change (d':=.dct (kPut ks y) (vPut ks ds y x)) hi (fun b o n e=>by rw [aE n];exact e) ⟨vPut ks vs y v,aq,xj l,?_⟩).sub (P':=P) fun q hq=>List.mem_cons_of_mem _ (List.mem_cons_of_mem _ hq)⟩⟩
  have kp:Kp (fun b=>G.M0 b∨A b) H2 (upd H2 a (.dK (aP (kPut ks y) (vPut ks vs y v)))):=by
   have hk:∀ b o,b≠a→H2 b=some o→upd H2 a (.dK (aP (kPut ks y) (vPut ks vs y v))) b=some o:=fun b o n e=>by rw [aE n];exact e
   exact⟨fun b o e n=>hk b o (fun z=>n (.inr (by rw [z];exact aa))) e,fun b xs e=>hk b _ (fun z=>by rw [z,hvs] at e;cases e) e,fun b o u e=>hk b _ (fun z=>by rw [z,hvs] at e;cases e) e⟩
  exact Reps.kp kp _ _ (Reps.put y rs (q.pnd (x,v) (by simp)))⟩
def zG:TDS:=fun R δ=>R.rt .non δ
theorem vP {pos:Pos}:DS X (.Return none pos) zG:=PS.imp vR fun E σ H ⟨G,δ,P,R,s,h,_,k,_⟩=>k.1 .non δ h .non σ H (s.sc rfl)
def sP (x:Str):List D:=x.cps.toList.map fun c=>D.str ⟨#[c]⟩
def Bx (t:TDE):TDC:=fun δ R=>t δ (wd fun d δ1=>∃ x,d=.str x∧R (sP x) δ1)
def dPop (i j:Nat):TDS:=fun R δ=>∃ a ds y,δ[i]?=some (.own a (.lst (ds++[y])))∧R.nx ((δ.set i (.own a (.lst ds))).set j (.dat y))
end
end DL
namespace DL
open PySem PySem.Spec PyProof.Rows L2
section
variable {prog:Program} {w:World} {A:Around} {E:Value→Shared→Prop}
end
section
variable {X:Cx} {pos:Pos}
def AH (n:Nat) (t:TDGs):TDG:=fun d δ R=>∃ xs,d=.lst xs∧xs.length=n∧t xs δ R
end
end DL
namespace DL
open PySem PySem.Spec PyProof.Rows L2
section
variable {X:Cx} {b:Expr} {tb:TDE} {pos p:Pos}
def AV (D:List (Str×Str)) (t:TDE):TDE:=fun δ R=>t δ (wd fun z δ1=>∃ k v,z=.str k∧KTD.datumAt k D=some v∧R (.d (.str v)) δ1)
end
end DL
namespace DL
open PySem PySem.Spec PyProof.Rows L2
def fMax:List D→(D→Prop)→Prop
 | [.int i,.int j],R=>R (.int (max i j))
 | [.lst ds],R=>∃ ns:List Int,ds=ns.map D.int∧0 < ns.length∧∀ M∈ns,(∀ a∈ns,a≤M)→R (.int M)
 | _,_=>False
theorem uj {i j:Int} {R:D→Prop}:fMax [.int i,.int j] R↔R (.int (max i j)):=Iff.rfl
theorem ub {ds:List D} {R:D→Prop}:fMax [.lst ds] R↔∃ ns:List Int,ds=ns.map D.int∧0 < ns.length∧∀ M∈ns,(∀ a∈ns,a≤M)→R (.int M):=Iff.rfl
end DL
namespace Mf
def gc (a b:Int):Int:=(Int.gcd a b:Nat)
theorem pO (a b:Int):gc b (a.fmod b)=gc a b:=by
 unfold gc
 rw [Int.fmod_def,Int.gcd_sub_mul_left_right,Int.gcd_comm]
theorem em (a b:Int) (hb:b≠0):(a.fmod b).natAbs < b.natAbs:=by
 rcases Int.lt_or_gt_of_ne hb with h | h
 ·have e:a.fmod b=-((-a).fmod (-b)):=by
   have h1:(-a).fdiv (-b)=a.fdiv b:=Int.neg_fdiv_neg a b
   rw [Int.fmod_def,Int.fmod_def,h1,Int.neg_mul]
   omega
  have h1:=Int.fmod_nonneg_of_pos (-a) (b:=-b) (by omega)
  have h2:=Int.fmod_lt_of_pos (-a) (b:=-b) (by omega)
  rw [e]
  omega
 ·have h1:=Int.fmod_nonneg_of_pos a h
  have h2:=Int.fmod_lt_of_pos a h
  omega
theorem rL (a:Int):gc a 0=if a < 0 then -a else a:=by
 unfold gc
 rw [Int.gcd_zero_right]
 split<;>omega
theorem pR (a b:Int):0≤gc a b:=by unfold gc;omega
theorem uK (a:Int) {b:Int} (h:b≠0):0 < gc a b:=by
 unfold gc
 have:=Int.gcd_pos_of_ne_zero_right a h
 omega
theorem eQ (a b:Int):gc a b ∣ a:=Int.gcd_dvd_left a b
theorem dQ (a b:Int):gc a b ∣ b:=Int.gcd_dvd_right a b
structure Low (p q:Int):Prop where
 pos:0 < q
 cop:gc p q=1
theorem Low.cop' {p q:Int} (h:Low p q):Int.gcd p q=1:=by have:=h.cop;unfold gc at this;omega
theorem Low.ne {p q:Int} (h:Low p q):q≠0:=by have:=h.pos;omega
theorem Low.uniq {p q p' q':Int} (h:Low p q) (h':Low p' q') (e:p * q'=p' * q):p=p'∧q=q':=by
 have d1:q ∣ q':=by
  have:q ∣ p * q':=⟨p',by rw [e,Int.mul_comm]⟩
  have g:Int.gcd q p=1:=by rw [Int.gcd_comm];exact h.cop'
  have k:=(Int.dvd_gcd_mul_iff_dvd_mul (k:=q) (n:=p) (m:=q')).mpr this
  rw [g] at k
  simpa using k
 have d2:q' ∣ q:=by
  have:q' ∣ p' * q:=⟨p,by rw [← e,Int.mul_comm]⟩
  have g:Int.gcd q' p'=1:=by rw [Int.gcd_comm];exact h'.cop'
  have k:=(Int.dvd_gcd_mul_iff_dvd_mul (k:=q') (n:=p') (m:=q)).mpr this
  rw [g] at k
  simpa using k
 have eq:q=q':=by
  have a1:=Int.le_of_dvd h'.pos d1
  have a2:=Int.le_of_dvd h.pos d2
  omega
 subst eq
 exact⟨Int.eq_of_mul_eq_mul_right h.ne e,rfl⟩
def dv (t b:Int):Int:=if b < 0 then -(gc t b) else gc t b
def mkT (t b:Int):Int:=t.fdiv (dv t b)
def mkB (t b:Int):Int:=b.fdiv (dv t b)
theorem y6 (t:Int) {b:Int} (h:b≠0):dv t b≠0:=by
 have:=uK t h
 unfold dv
 split<;>omega
theorem l6 (t b:Int):dv t b ∣ t:=by
 unfold dv
 split
 ·exact (Int.neg_dvd).mpr (eQ t b)
 ·exact eQ t b
theorem jR (t b:Int):dv t b ∣ b:=by
 unfold dv
 split
 ·exact (Int.neg_dvd).mpr (dQ t b)
 ·exact dQ t b
theorem rg (t b:Int):mkT t b * dv t b=t:=Int.fdiv_mul_cancel (l6 t b)
theorem qh (t b:Int):mkB t b * dv t b=b:=Int.fdiv_mul_cancel (jR t b)
theorem kh (t b:Int):(dv t b).natAbs=Int.gcd t b:=by
 unfold dv gc
 split<;>omega
theorem el (t:Int) {b:Int} (h:b≠0):Low (mkT t b) (mkB t b):=by
 have e1:=rg t b
 have e2:=qh t b
 have hd:=y6 t h
 constructor
 ·unfold dv at e2 hd
  have gp:=uK t h
  by_cases hb:b < 0
  ·rw [if_pos hb] at e2
   have:mkB t b * gc t b=-b:=by rw [Int.mul_neg] at e2;omega
   exact Int.pos_of_mul_pos_left (by omega) gp |> fun z=>z
  ·rw [if_neg hb] at e2
   exact Int.pos_of_mul_pos_left (by omega) gp |> fun z=>z
 ·have g:Int.gcd (mkT t b * dv t b) (mkB t b * dv t b)=Int.gcd (mkT t b) (mkB t b) * (dv t b).natAbs:=Int.gcd_mul_right _ _ _
  rw [e1,e2,kh] at g
  have gp:=Int.gcd_pos_of_ne_zero_right t h
  unfold gc
  have:Int.gcd (mkT t b) (mkB t b)=1:=by
   have g2:1 * Int.gcd t b=Int.gcd (mkT t b) (mkB t b) * Int.gcd t b:=by rw [Nat.one_mul];exact g
   exact (Nat.eq_of_mul_eq_mul_right gp g2).symm
  omega
theorem mV (t b:Int):mkT t b * b=t * mkB t b:=by
 have e1:=rg t b
 have e2:=qh t b
 calc mkT t b * b=mkT t b * (mkB t b * dv t b):=by rw [e2]
  _=(mkT t b * dv t b) * mkB t b:=by rw [Int.mul_assoc,Int.mul_comm (mkB t b)]
  _=t * mkB t b:=by rw [e1]
theorem vM {t b p q:Int} (hb:b≠0) (h:Low p q) (e:p * b=t * q):mkT t b=p∧mkB t b=q:=by
 refine (el t hb).uniq h ?_
 have c:=mV t b
 refine Int.eq_of_mul_eq_mul_right hb ?_
 calc mkT t b * q * b=mkT t b * b * q:=by rw [Int.mul_assoc,Int.mul_comm q,← Int.mul_assoc]
  _=t * mkB t b * q:=by rw [c]
  _=(t * q) * mkB t b:=by rw [Int.mul_assoc,Int.mul_comm (mkB t b),← Int.mul_assoc]
  _=p * b * mkB t b:=by rw [e]
  _=p * mkB t b * b:=by rw [Int.mul_assoc,Int.mul_comm b,← Int.mul_assoc]
theorem Low.self {p q:Int} (h:Low p q):mkT p q=p∧mkB p q=q:=vM h.ne h rfl
end Mf
namespace Mf
open PySem L2 DL
def bot (q:Str→Int):List Str→Int
 | []=>1
 | n :: r=>q n * bot q r
theorem fN (q:Str→Int) (l r:List Str):bot q (l++r)=bot q l * bot q r:=by
 induction l with
 | nil=>show bot q r=1 * bot q r;rw [Int.one_mul]
 | cons x l ih=>show q x * bot q (l++r)=q x * bot q l * bot q r;rw [ih,Int.mul_assoc]
theorem mf (q:Str→Int) (n:Str):bot q [n]=q n:=by show q n * 1=q n;rw [Int.mul_one]
theorem cD {q:Str→Int}:∀ {l:List Str},(∀ n∈l,0 < q n)→0 < bot q l
 | [],_=>(by decide:(0:Int) < 1)
 | n :: r,h=>Int.mul_pos (h n (List.mem_cons_self ..)) (cD fun m hm=>h m (List.mem_cons_of_mem _ hm))
theorem dJ {q:Str→Int}:∀ {l:List Str} {n:Str},n∈l→q n ∣ bot q l
 | x :: r,n,h=>by
  rcases List.mem_cons.mp h with rfl | h
  ·exact Int.dvd_mul_right _ _
  ·exact Int.dvd_trans (dJ h) (Int.dvd_mul_left _ _)
theorem uw {q:Str→Int} {l r:List Str} (h:l.Perm r):bot q l=bot q r:=by
 induction h with
 | nil=>rfl
 | cons x _ ih=>show q x * _=q x * _;rw [ih]
 | swap x y l=>show q y * (q x * bot q l)=q x * (q y * bot q l);rw [← Int.mul_assoc,← Int.mul_assoc,Int.mul_comm (q y)]
 | trans _ _ h1 h2=>rw [h1,h2]
def sumT (f:Str→Int):List (Str×Int)→Int
 | []=>0
 | t :: r=>t.2 * f t.1 + sumT f r
theorem gC (f:Str→Int) (l r:List (Str×Int)):sumT f (l++r)=sumT f l + sumT f r:=by
 induction l with
 | nil=>show sumT f r=0 + sumT f r;rw [Int.zero_add]
 | cons x l ih=>show x.2 * f x.1 + sumT f (l++r)=x.2 * f x.1 + sumT f l + sumT f r;rw [ih,Int.add_assoc]
theorem mP (f:Str→Int) (t:Str×Int):sumT f [t]=t.2 * f t.1:=by show t.2 * f t.1 + 0=_;rw [Int.add_zero]
theorem fV {f g:Str→Int}:∀ {l:List (Str×Int)},(∀ t∈l,f t.1=g t.1)→sumT f l=sumT g l
 | [],_=>rfl
 | t :: r,h=>by show t.2 * f t.1 + _=t.2 * g t.1 + _;rw [h t (List.mem_cons_self ..),fV fun u hu=>h u (List.mem_cons_of_mem _ hu)]
theorem gw (f:Str→Int) (k:Int):∀ l:List (Str×Int),k * sumT f l=sumT (fun n=>k * f n) l
 | []=>Int.mul_zero k
 | t :: r=>by
  show k * (t.2 * f t.1 + sumT f r)=t.2 * (k * f t.1) + _
  rw [Int.mul_add,gw f k r,Int.mul_left_comm]
def ov (p q:Str→Int) (B:Int) (n:Str):Int:=p n * B.fdiv (q n)
theorem t9 {p q:Str→Int} {B C:Int} {n:Str} (h0:q n≠0) (h:q n ∣ B) (h':q n ∣ C):C * ov p q B n=B * ov p q C n:=by
 obtain ⟨x,rfl⟩:=h
 obtain ⟨y,rfl⟩:=h'
 unfold ov
 rw [Int.mul_fdiv_cancel_left _ h0,Int.mul_fdiv_cancel_left _ h0]
 rw [Int.mul_left_comm,Int.mul_left_comm (q n * x),Int.mul_assoc,Int.mul_assoc,Int.mul_comm y x]
theorem qL {p q:Str→Int} {B C:Int} {ts:List (Str×Int)} (h:∀ t∈ts,q t.1≠0∧q t.1 ∣ B∧q t.1 ∣ C):C * sumT (ov p q B) ts=B * sumT (ov p q C) ts:=by
 rw [gw,gw]
 exact fV fun t ht=>t9 (h t ht).1 (h t ht).2.1 (h t ht).2.2
theorem uh {p q:Str→Int} {B:Int} {ts:List (Str×Int)} {t:Str×Int} (h:∀ u∈ts,q u.1≠0∧q u.1 ∣ B) (ht:q t.1≠0) :
  sumT (ov p q B) ts * q t.1 + t.2 * p t.1 * B=sumT (ov p q (B * q t.1)) (ts++[t]):=by
 rw [gC,mP]
 have e1:sumT (ov p q (B * q t.1)) ts=sumT (ov p q B) ts * q t.1:=by
  rw [Int.mul_comm (sumT (ov p q B) ts),gw]
  refine fV fun u hu=>?_
  obtain ⟨h0,x,rfl⟩:=h u hu
  unfold ov
  rw [Int.mul_assoc,Int.mul_fdiv_cancel_left _ h0,Int.mul_fdiv_cancel_left _ h0,Int.mul_comm x,Int.mul_left_comm]
 have e2:ov p q (B * q t.1) t.1=p t.1 * B:=by
  unfold ov
  rw [Int.mul_comm B,Int.mul_fdiv_cancel_left _ ht]
 rw [e1,e2,Int.mul_assoc]
theorem sZ {a b B C s t:Int} (hB:0 < B) (hC:0 < C) (e:C * s=B * t):(b * B≤s↔b * C≤t):=by
 constructor
 ·intro h
  have h1:=Int.mul_le_mul_of_nonneg_left h (Int.le_of_lt hC)
  rw [e] at h1
  have h2:B * (b * C)≤B * t:=by rw [Int.mul_left_comm B,Int.mul_comm B C,Int.mul_left_comm b];exact h1
  exact Int.le_of_mul_le_mul_left h2 hB
 ·intro h
  have h1:=Int.mul_le_mul_of_nonneg_left h (Int.le_of_lt hB)
  rw [← e] at h1
  have h2:C * (b * B)≤C * s:=by rw [Int.mul_left_comm C,Int.mul_comm C B,Int.mul_left_comm b];exact h1
  exact Int.le_of_mul_le_mul_left h2 hC
theorem tz {b B C s t:Int} (hB:0 < B) (hC:0 < C) (e:C * s=B * t):(b * B < s↔b * C < t):=by
 constructor
 ·intro h
  have h1:=Int.mul_lt_mul_of_pos_left h hC
  rw [e] at h1
  have h2:B * (b * C) < B * t:=by rw [Int.mul_left_comm B,Int.mul_comm B C,Int.mul_left_comm b];exact h1
  exact Int.lt_of_mul_lt_mul_left h2 (Int.le_of_lt hB)
 ·intro h
  have h1:=Int.mul_lt_mul_of_pos_left h hB
  rw [← e] at h1
  have h2:C * (b * B) < C * s:=by rw [Int.mul_left_comm C,Int.mul_comm C B,Int.mul_left_comm b];exact h1
  exact Int.lt_of_mul_lt_mul_left h2 (Int.le_of_lt hC)
end Mf
namespace DL
open PySem PySem.Spec PyProof.Rows L2
theorem kU {x y:Nat} {r t:List Nat}:ltCps (x :: r) (y :: t)=if x < y then true else if y < x then false else ltCps r t:=by
 show (decide (x < y) || (x == y && ltCps r t))=_
 rcases Nat.lt_trichotomy x y with h | h | h
 ·rw [if_pos h,decide_eq_true h];rfl
 ·subst h
  rw [if_neg (Nat.lt_irrefl x),if_neg (Nat.lt_irrefl x)]
  simp
 ·rw [if_neg (Nat.lt_asymm h),if_pos h,decide_eq_false (Nat.lt_asymm h)]
  have:(x == y)=false:=by simp;omega
  rw [this];rfl
theorem nC:∀ {a b:List Nat},ltCps a b=false→ltCps b a=false→a=b
 | [],[],_,_=>rfl
 | [],y :: s,h,_=>by simp [ltCps] at h
 | x :: r,[],_,h=>by simp [ltCps] at h
 | x :: r,y :: s,h1,h2=>by
  rw [kU] at h1 h2
  rcases Nat.lt_trichotomy x y with h | h | h
  ·rw [if_pos h] at h1;cases h1
  ·subst h
   rw [if_neg (Nat.lt_irrefl x),if_neg (Nat.lt_irrefl x)] at h1 h2
   rw [nC h1 h2]
  ·rw [if_pos h] at h2;cases h2
theorem eE:∀ {a b c:List Nat},ltCps b a=false→ltCps c b=false→ltCps c a=false
 | [],b,c,_,_=>by cases c<;>rfl
 | x :: r,[],c,h,_=>by simp [ltCps] at h
 | x :: r,y :: s,[],_,h=>by simp [ltCps] at h
 | x :: r,y :: s,z :: t,h1,h2=>by
  rw [kU] at h1 h2 ⊢
  rcases Nat.lt_trichotomy y x with h | h | h
  ·rw [if_pos h] at h1;cases h1
  ·subst h
   rw [if_neg (Nat.lt_irrefl y),if_neg (Nat.lt_irrefl y)] at h1
   rcases Nat.lt_trichotomy z y with g | g | g
   ·rw [if_pos g] at h2;cases h2
   ·subst g
    rw [if_neg (Nat.lt_irrefl z),if_neg (Nat.lt_irrefl z)] at h2 ⊢
    exact eE h1 h2
   ·rw [if_neg (Nat.lt_asymm g),if_pos g]
  ·rcases Nat.lt_trichotomy z y with g | g | g
   ·rw [if_pos g] at h2;cases h2
   ·subst g
    rw [if_neg (Nat.lt_asymm h),if_pos h]
   ·have:x < z:=Nat.lt_trans h g
    rw [if_neg (Nat.lt_asymm this),if_pos this]
def leS (a b:Str):Prop:=ltCps b.cps.toList a.cps.toList=false
theorem zJ {a b:Str} (h1:leS a b) (h2:leS b a):a=b:=by
 have:=nC h2 h1
 cases a;cases b
 simp only [Str.mk.injEq] at *
 exact Array.toList_inj.mp this
theorem pG (a b:Str):leS a b∨leS b a:=by
 unfold leS
 cases h:ltCps b.cps.toList a.cps.toList with
 | false=>exact .inl rfl
 | true =>
  cases g:ltCps a.cps.toList b.cps.toList with
  | false=>exact .inr rfl
  | true =>
   exfalso
   have:∀ x y:List Nat,ltCps x y=true→ltCps y x=true→False:=by
    intro x
    induction x with
    | nil=>intro y _ h;cases y<;>simp [ltCps] at h
    | cons u r ih =>
     intro y h1 h2
     cases y with
     | nil=>simp [ltCps] at h1
     | cons v s =>
      rw [kU] at h1 h2
      rcases Nat.lt_trichotomy u v with z | z | z
      ·rw [if_neg (Nat.lt_asymm z),if_pos z] at h2;cases h2
      ·subst z
       rw [if_neg (Nat.lt_irrefl u),if_neg (Nat.lt_irrefl u)] at h1 h2
       exact ih s h1 h2
      ·rw [if_neg (Nat.lt_asymm z),if_pos z] at h1;cases h1
   exact this _ _ h g
theorem iV:∀ {ss:List Str},Srt ss→ss.Pairwise leS
 | [],_=>.nil
 | x :: r,h=>by
  have h:risingS x r=true:=h
  have key:∀ (r:List Str) (x:Str),risingS x r=true→(∀ y∈r,leS x y)∧r.Pairwise leS:=by
   intro r
   induction r with
   | nil=>intro x _;exact⟨fun y hy=>(nomatch hy),.nil⟩
   | cons y r ih =>
    intro x h
    unfold risingS at h
    obtain ⟨h1,h2⟩:=Bool.and_eq_true_iff.mp h
    have h1:leS x y:=by unfold leS;cases q:ltCps y.cps.toList x.cps.toList with
     | false=>rfl
     | true=>rw [q] at h1;cases h1
    obtain ⟨i1,i2⟩:=ih y h2
    refine⟨fun z hz=>?_,.cons i1 i2⟩
    rcases List.mem_cons.mp hz with rfl | hz
    ·exact h1
    ·exact eE h1 (i1 z hz)
  obtain ⟨k1,k2⟩:=key r x h
  exact .cons k1 k2
theorem g6:∀ {as bs:List Str},as.Pairwise leS→bs.Pairwise leS→as.Nodup→bs.Nodup→(∀ x,x∈as↔x∈bs)→as=bs
 | [],[],_,_,_,_,_=>rfl
 | [],b :: bs,_,_,_,_,h=>by have:=(h b).mpr (List.mem_cons_self ..);cases this
 | a :: as,[],_,_,_,_,h=>by have:=(h a).mp (List.mem_cons_self ..);cases this
 | a :: as,b :: bs,pa,pb,na,nb,h=>by
  cases pa with
  | cons pa1 pa2 =>
   cases pb with
   | cons pb1 pb2 =>
    have e:a=b:=by
     rcases List.mem_cons.mp ((h a).mp (List.mem_cons_self ..)) with e | ha
     ·exact e
     ·rcases List.mem_cons.mp ((h b).mpr (List.mem_cons_self ..)) with e | hb
      ·exact e.symm
      ·exact zJ (pa1 b hb) (pb1 a ha)
    subst e
    obtain ⟨n1,n2⟩:=List.nodup_cons.mp na
    obtain ⟨n3,n4⟩:=List.nodup_cons.mp nb
    rw [g6 pa2 pb2 n2 n4 fun x=>⟨fun hx=>?_,fun hx=>?_⟩]
    ·rcases List.mem_cons.mp ((h x).mp (List.mem_cons_of_mem _ hx)) with e | hx'
     ·exact absurd (e ▸ hx) n1
     ·exact hx'
    ·rcases List.mem_cons.mp ((h x).mpr (List.mem_cons_of_mem _ hx)) with e | hx'
     ·exact absurd (e ▸ hx) n3
     ·exact hx'
theorem tI {as bs:List Str} (ha:Srt as) (hb:Srt bs) (na:as.Nodup) (nb:bs.Nodup) (h:∀ x,x∈as↔x∈bs):as=bs:=g6 (iV ha) (iV hb) na nb h
end DL
namespace DL
open PySem PySem.Spec PyProof.Rows L2
def ItA (k:Bool) (h:Heap) (it a:Addr) (i:Nat):Prop:=match k with | true=>h.IsListIter it a i | false=>h.IsTupleIter it a i
def SqA (k:Bool) (h:Heap) (a:Addr) (xs:Array Value):Prop:=match k with | true=>h.IsList a xs | false=>h.IsTuple a xs
theorem ItA.keep {k:Bool} {h h':Heap} {it a:Addr} {i:Nat} (x:ItA k h it a i) (f:∀ o,h.get? it=some o→h'.get? it=some o):ItA k h' it a i:=by
 cases k
 ·exact Heap.IsTupleIter.at x f
 ·exact Heap.IsListIter.at x f
theorem SqA.keep {k:Bool} {h h':Heap} {a:Addr} {xs:Array Value} (x:SqA k h a xs) (f:∀ o,h.get? a=some o→h'.get? a=some o):SqA k h' a xs:=by
 cases k
 ·exact Heap.IsTuple.at x f
 ·exact Heap.IsList.at x f
theorem ItA.obj {k:Bool} {h:Heap} {it a:Addr} {i:Nat} (x:ItA k h it a i):∃ o,h.get? it=some o∧o.cls=.type (if k then "list_iterator" else "tuple_iterator")∧o.data=.fields #[.ref a,.int i 0]:=by
 cases k
 ·exact x
 ·exact x
theorem SqA.there {k:Bool} {h:Heap} {a:Addr} {xs:Array Value} (x:SqA k h a xs):∃ o,h.get? a=some o∧∃ n,o.data=.seq xs n:=by
 cases k
 ·obtain ⟨o,e,_,d⟩:=x;exact⟨o,e,d⟩
 ·obtain ⟨o,e,_,d⟩:=x;exact⟨o,e,d⟩
section
variable {prog:Program} {w:World} {A:Around} {E:Value→Shared→Prop} {s:Shared}
theorem AR {it t:Addr} {i:Nat} {xs:Array Value} {x:Value} {Q:Value→Shared→Prop} (a1:s.heap.IsTupleIter it t i) (a2:s.heap.IsTuple t xs) (a3:xs[i]?=some x)
  (q:∀ h',h'.IsTupleIter it t (i + 1)→Heap.SameBut it s.heap h'→Q x { s with heap:=h' }):wpAny (model prog w) A (Builtin.SmallTypes.nextOf (.ref it)) Q E s:=by
 obtain ⟨u,e1,e2,e3⟩:=id a1
 obtain ⟨ut,f1,_,nn,f2⟩:=a2
 unfold Builtin.SmallTypes.nextOf
 refine wpAny_bind (wpAny_callSpecial?_slot (name:=Str.ofString "__next__") a1.typeIs F.slot_tuple_iterator_next (wpAny_call_entry F.slot_tuple_iterator_next a1.typeIs F.entry_tuple_iterator_next ?_ (F.args_tuple_iterator_next_1 _)))
 refine wpAny_bind (m:=field (.ref it) 0) (wpAny_field e1 e3 (x:=.ref t) rfl ?_)
 rw [if_neg (c:=(Value.ref t == Value.none)=true) Bool.false_ne_true]
 refine wpAny_bind (m:=field (.ref it) 1) (wpAny_field e1 e3 (x:=.int i 0) rfl ?_)
 refine wpAny_bind (m:=seqItems? (.ref t)) (wpAny_seqItems f1 f2 ?_)
 simp only [Int.toNat_natCast,a3]
 refine wpAny_bind (wpAny_setField e1 e3 (by simp) (wpAny_pure ⟨x,rfl,wpAny_pure (q _ ?_ (Heap.SameBut.update ..))⟩))
 refine⟨_,Heap.get?_update_self _ e1 (Obj.isFreed_of_fields (Obj.data_mapFields e3 _)),(Obj.cls_mapFields ..).trans e2,?_⟩
 rw [Obj.data_mapFields e3];simp [rawInt]
theorem rk {it t:Addr} {i:Nat} {xs:Array Value} {Q:Value→Shared→Prop} (a0:A.handled=none) (a1:s.heap.IsTupleIter it t i) (a2:s.heap.IsTuple t xs) (a3:xs[i]?=none)
  (q:∀ h' e,Heap.ExtBut it s.heap h'→(∃ o,h'.get? e=some o∧o.cls=.type "StopIteration")→E (.ref e) { s with heap:=h' }):wpAny (model prog w) A (Builtin.SmallTypes.nextOf (.ref it)) Q E s:=by
 obtain ⟨u,e1,e2,e3⟩:=id a1
 obtain ⟨ut,f1,_,nn,f2⟩:=a2
 unfold Builtin.SmallTypes.nextOf
 refine wpAny_bind (wpAny_callSpecial?_slot (name:=Str.ofString "__next__") a1.typeIs F.slot_tuple_iterator_next (wpAny_call_entry F.slot_tuple_iterator_next a1.typeIs F.entry_tuple_iterator_next ?_ (F.args_tuple_iterator_next_1 _)))
 refine wpAny_bind (m:=field (.ref it) 0) (wpAny_field e1 e3 (x:=.ref t) rfl ?_)
 rw [if_neg (c:=(Value.ref t == Value.none)=true) Bool.false_ne_true]
 refine wpAny_bind (m:=field (.ref it) 1) (wpAny_field e1 e3 (x:=.int i 0) rfl ?_)
 refine wpAny_bind (m:=seqItems? (.ref t)) (wpAny_seqItems f1 f2 ?_)
 simp only [Int.toNat_natCast,a3]
 refine wpAny_bind (wpAny_rule (wpAny_bind (wpAny_setField e1 e3 (by simp) ?_)))
 refine wpAny_bind (m:=newExc (.type "StopIteration") []) ?_
 simp only [newExc,newTuple]
 refine wpAny_bind (wpAny_newObj_type ?_ (by size_fits))
 refine wpAny_bind (m:=firstArgMember _ _) (wpAny_of_eq (a:=Value.none) (by first | rfl | (simp only [firstArgMember];rfl)) ?_)
 refine wpAny_newObj_type ?_ (by size_fits)
 simp only [raiseNew]
 refine wpAny_bind (wpAny_handled ?_)
 first | rw [show A.in1.handled=none from a0] | rw [a0]
 exact wpAny_bind (wpAny_pure (wpAny_throw (q _ _ (((Heap.SameBut.update ..).extBut.push _).push _) ⟨_,Heap.get?_push_size _ rfl,rfl⟩)))
theorem wW {k:Bool} {it a:Addr} {i:Nat} {xs:Array Value} {x:Value} {Q:Value→Shared→Prop} (a1:ItA k s.heap it a i) (a2:SqA k s.heap a xs) (a3:xs[i]?=some x)
  (q:∀ h',ItA k h' it a (i + 1)→Heap.SameBut it s.heap h'→Q x { s with heap:=h' }):wpAny (model prog w) A (Builtin.SmallTypes.nextOf (.ref it)) Q E s:=by
 cases k
 ·exact AR a1 a2 a3 q
 ·exact wpAny_nextOf_list_item a1 a2 a3 q
theorem j6 {k:Bool} {it a:Addr} {i:Nat} {xs:Array Value} {Q:Value→Shared→Prop} (a0:A.handled=none) (a1:ItA k s.heap it a i) (a2:SqA k s.heap a xs) (a3:xs[i]?=none)
  (q:∀ h' e,Heap.ExtBut it s.heap h'→(∃ o,h'.get? e=some o∧o.cls=.type "StopIteration")→E (.ref e) { s with heap:=h' }):wpAny (model prog w) A (Builtin.SmallTypes.nextOf (.ref it)) Q E s:=by
 cases k
 ·exact rk a0 a1 a2 a3 q
 ·exact wpAny_nextOf_list_end a0 a1 a2 a3 q
theorem u5 {k:Bool} {a:Addr} {xs:Array Value} {Q:Value→Shared→Prop} (a1:SqA k s.heap a xs)
  (q:Q (.ref s.heap.objs.size) { s with heap:=s.heap.push { cls:=.type (if k then "list_iterator" else "tuple_iterator"),data:=.fields #[.ref a,.int 0 0] } }):wpAny (model prog w) A (pyIter (.ref a)) Q E s:=by
 cases k
 ·exact wpAny_pyIter_tuple a1 q
 ·exact wpAny_pyIter_list a1 q
structure ZAp (z p o i j a b:Addr):Prop where
 zp:p≠z
 zo:o≠z
 zi:i≠z
 zj:j≠z
 po:p≠o
 pi:p≠i
 pj:p≠j
 oi:o≠i
 oj:o≠j
 ij:i≠j
 az:a≠z
 ao:a≠o
 ai:a≠i
 aj:a≠j
 bz:b≠z
 bo:b≠o
 bi:b≠i
 bj:b≠j
structure ZAt (k l:Bool) (h:Heap) (z p o i j a b:Addr) (m:Nat) (xs ys:Array Value):Prop where
 hz:IsZip h z p o .none
 hp:IsPair h p (.ref i) (.ref j)
 ho:∃ u v,IsPair h o u v
 hi:ItA k h i a m
 hj:ItA l h j b m
 ha:SqA k h a xs
 hb:SqA l h b ys
theorem AU {k l:Bool} {z p o i j a b:Addr} {m:Nat} {xs ys:Array Value} {x y:Value} {elts:List Expr} {x1} {pos:Pos} {Q:Unit→Shared→Prop} (D:ZAp z p o i j a b) (Z:ZAt k l s.heap z p o i j a b m xs ys) (hx:xs[m]?=some x) (hy:ys[m]?=some y)
  (q:∀ h',ZAt k l h' z p o i j a b (m + 1) xs ys→IsPair h' s.heap.objs.size x y→h'.objs.size=s.heap.objs.size + 1→(∀ c u,c≠z→c≠o→c≠i→c≠j→s.heap.get? c=some u→h'.get? c=some u)→Q () { s with heap:=h' }) :
  wpAny (model prog w) A (pyNext (.ref z)) (fun r s1=>∃ u,r=some u∧u=.ref s.heap.objs.size∧wpAny (model prog w) A (letOwnedTupleGo (.Tuple elts x1 pos) (.ref z) u) Q E s1) E s:=by
 obtain ⟨hz,hp,⟨u,v,ho⟩,hi,hj,ha,hb⟩:=Z
 have hT:s.TypeIs (.ref z) "zip":=⟨_,hz,rfl⟩
 unfold pyNext
 refine wpAny_bind (wpAny_attempt (wpAny_callSpecial?_slot (name:=Str.ofString "__next__") hT F.slot_zip_next (wpAny_call_entry F.slot_zip_next hT F.entry_zip_next ?_ (F.args_zip_next_1 _))))
 refine wpAny_bind (m:=field (.ref z) 2) (wpAny_field hz rfl (x:=.bool false) rfl ?_)
 refine wpAny_bind (m:=field (.ref z) 3) (wpAny_field hz rfl (x:=.ref p) rfl ?_)
 refine wpAny_bind (wpAny_seqItems hp rfl ?_)
 refine wpAny_bind (m:=Builtin.SmallTypes.ownedTupleIsFree (.ref z)) ?_
 unfold Builtin.SmallTypes.ownedTupleIsFree
 refine wpAny_bind (wpAny_field hz rfl (x:=.none) rfl (wpAny_pure ?_))
 simp only [if_true]
 refine wpAny_bind (wpAny_rule (wpAny_bind (wpAny_field hz rfl (x:=.ref o) rfl (wpAny_bind (wpAny_setField_rec hz (by simp) fun g1 z1 s1=>?_)))))
 replace z1:IsZip g1 z p o .ellipsis:=z1
 refine wpAny_bind ?_
 simp only [List.zipIdx_cons,List.zipIdx_nil,List.forIn_cons,List.forIn_nil]
 refine wpAny_bind (wpAny_bind (wpAny_onRaise ?_))
 have k1:∀ c u,c≠z→s.heap.get? c=some u→g1.get? c=some u:=fun c u n e=>s1.extBut _ _ n e
 refine wpAny_bind (m:=Builtin.SmallTypes.nextOf (.ref i)) (wW (hi.keep fun u e=>k1 _ u D.zi e) (ha.keep fun u e=>k1 _ u D.az e) hx fun g2 i2 s2=>wpAny_pure ?_)
 have k2:∀ c u,c≠i→g1.get? c=some u→g2.get? c=some u:=fun c u n e=>s2.extBut _ _ n e
 have o2:IsPair g2 o u v:=k2 _ _ D.oi (k1 _ _ D.zo ho)
 refine wpAny_bind (wpAny_seqItems o2 rfl (wpAny_bind (wpAny_updateSeq_pair o2 fun g3 o3 s3=>wpAny_bind (wpAny_letGo (wpAny_pure ?_)))))
 replace o3:IsPair g3 o x v:=o3
 have k3:∀ c u,c≠o→g2.get? c=some u→g3.get? c=some u:=fun c u n e=>s3.extBut _ _ n e
 refine wpAny_bind (wpAny_bind (wpAny_onRaise ?_))
 refine wpAny_bind (m:=Builtin.SmallTypes.nextOf (.ref j)) (wW (hj.keep fun u e=>k3 _ u D.oj.symm (k2 _ u D.ij.symm (k1 _ u D.zj e))) (hb.keep fun u e=>k3 _ u D.bo (k2 _ u D.bi (k1 _ u D.bz e))) hy fun g4 j4 s4=>wpAny_pure ?_)
 have k4:∀ c u,c≠j→g3.get? c=some u→g4.get? c=some u:=fun c u n e=>s4.extBut _ _ n e
 have o4:IsPair g4 o x v:=k4 _ _ D.oj o3
 refine wpAny_bind (wpAny_seqItems o4 rfl (wpAny_bind (wpAny_updateSeq_pair o4 fun g5 o5 s5=>wpAny_bind (wpAny_letGo (wpAny_pure (wpAny_pure ?_))))))
 replace o5:IsPair g5 o x y:=o5
 have k5:∀ c u,c≠o→g4.get? c=some u→g5.get? c=some u:=fun c u n e=>s5.extBut _ _ n e
 refine wpAny_bind (wpAny_seqItems o5 rfl (wpAny_bind (wpAny_newTuple ?_)))
 have hsz:g5.objs.size=s.heap.objs.size:=by rw [s5.1,s4.1,s3.1,s2.1,s1.1]
 have z5:IsZip g5 z p o .ellipsis:=k5 _ _ D.zo.symm (k4 _ _ D.zj.symm (k3 _ _ D.zo.symm (k2 _ _ D.zi.symm z1)))
 have kk:∀ c u,c≠z→c≠o→c≠i→c≠j→s.heap.get? c=some u→g5.get? c=some u:=fun c u n1 n2 n3 n4 e=>k5 _ _ n2 (k4 _ _ n4 (k3 _ _ n2 (k2 _ _ n3 (k1 _ _ n1 e))))
 have i5:ItA k g5 i a (m + 1):=i2.keep fun u e=>k5 _ u D.oi.symm (k4 _ u D.ij (k3 _ u D.oi.symm e))
 have j5:ItA l g5 j b (m + 1):=j4.keep fun u e=>k5 _ u D.oj.symm e
 have lz:=Heap.lt_size z5
 refine wpAny_bind (m:=Builtin.SmallTypes.ownedTupleHandOut (.ref z) (.ref g5.objs.size)) ?_
 unfold Builtin.SmallTypes.ownedTupleHandOut
 have z6:IsZip (g5.push { cls:=.type "tuple",data:=.seq #[x,y] }) z p o .ellipsis:=Heap.get?_push_of_some _ z5
 refine wpAny_bind (wpAny_setField_rec z6 (by simp) fun g7 z7 s7=>?_)
 replace z7:IsZip g7 z p o (rawInt g5.objs.size):=z7
 refine wpAny_setField_rec z7 (by simp) fun g8 z8 s8=>?_
 replace z8:IsZip g8 z p o (rawInt g5.objs.size):=z8
 have k8:∀ c u,c≠z→g5.get? c=some u→g8.get? c=some u:=fun c u n e=>s8.extBut _ _ n (s7.extBut _ _ n (Heap.get?_push_of_some _ e))
 have t8:IsPair g8 g5.objs.size x y:=s8.extBut _ _ (Nat.ne_of_gt lz) (s7.extBut _ _ (Nat.ne_of_gt lz) (Heap.get?_push_size _ rfl))
 have n8:g8.objs.size=g5.objs.size + 1:=by rw [s8.1,s7.1,Heap.size_push]
 rw [hsz] at z8 t8 n8
 refine wpAny_pure ⟨_,rfl,wpAny_pure ⟨_,rfl,congrArg Value.ref hsz,?_⟩⟩
 show wpAny (model prog w) A (letOwnedTupleGo (.Tuple elts x1 pos) (.ref z) (.ref g5.objs.size)) Q E _
 rw [hsz]
 refine wpAny_letOwnedTupleGo_zip z8 fun g9 z9 s9=>?_
 have k9:∀ c u,c≠z→g8.get? c=some u→g9.get? c=some u:=fun c u n e=>s9.extBut _ _ n e
 have up:∀ c u,c≠z→g5.get? c=some u→g9.get? c=some u:=fun c u n e=>k9 _ _ n (k8 _ _ n e)
 refine q g9 ⟨z9,up _ _ D.zp (kk _ _ D.zp D.po D.pi D.pj hp),⟨x,y,up _ _ D.zo o5⟩,i5.keep fun u e=>up _ u D.zi e,j5.keep fun u e=>up _ u D.zj e,ha.keep fun u e=>up _ u D.az (kk _ _ D.az D.ao D.ai D.aj e),hb.keep fun u e=>up _ u D.bz (kk _ _ D.bz D.bo D.bi D.bj e)⟩ ?_ ?_ fun c u n1 n2 n3 n4 e=>up c u n1 (kk c u n1 n2 n3 n4 e)
 ·exact k9 _ _ (by rw [← hsz];exact Nat.ne_of_gt lz) t8
 ·rw [s9.1,n8]
theorem A6 {k l:Bool} {z p o i j a b:Addr} {m:Nat} {xs ys:Array Value} {Q:Option Value→Shared→Prop} (a0:A.handled=none) (D:ZAp z p o i j a b) (Z:ZAt k l s.heap z p o i j a b m xs ys) (hend:xs[m]?=none∨ys[m]?=none)
  (q:∀ h',(∀ c u,c≠z→c≠o→c≠i→c≠j→s.heap.get? c=some u→h'.get? c=some u)→Q none { s with heap:=h' }):wpAny (model prog w) A (pyNext (.ref z)) Q E s:=by
 obtain ⟨hz,hp,⟨u,v,ho⟩,hi,hj,ha,hb⟩:=Z
 have hT:s.TypeIs (.ref z) "zip":=⟨_,hz,rfl⟩
 unfold pyNext
 have fin:∀ (g:Heap) (e:Addr),(∀ c u,c≠z→c≠o→c≠i→c≠j→s.heap.get? c=some u→g.get? c=some u)→(∃ o,g.get? e=some o∧o.cls=.type "StopIteration") →
   wpAny (model prog w) A (do if←isInstance (.ref e) (.type "StopIteration") then pure (none:Option Value) else throw (.ref e)) Q E { s with heap:=g }:=fun g e kk ⟨oe,h1,h2⟩ =>
  wpAny_bind (wpAny_isInstance (T:="StopIteration") (b:=true) ⟨oe,h1,h2⟩ isSubtype_stop (wpAny_pure (q _ kk)))
 refine wpAny_bind (wpAny_attempt (wpAny_callSpecial?_slot (name:=Str.ofString "__next__") hT F.slot_zip_next (wpAny_call_entry F.slot_zip_next hT F.entry_zip_next ?_ (F.args_zip_next_1 _))))
 refine wpAny_bind (m:=field (.ref z) 2) (wpAny_field hz rfl (x:=.bool false) rfl ?_)
 refine wpAny_bind (m:=field (.ref z) 3) (wpAny_field hz rfl (x:=.ref p) rfl ?_)
 refine wpAny_bind (wpAny_seqItems hp rfl ?_)
 refine wpAny_bind (m:=Builtin.SmallTypes.ownedTupleIsFree (.ref z)) ?_
 unfold Builtin.SmallTypes.ownedTupleIsFree
 refine wpAny_bind (wpAny_field hz rfl (x:=.none) rfl (wpAny_pure ?_))
 simp only [if_true]
 refine wpAny_bind (wpAny_rule (wpAny_bind (wpAny_field hz rfl (x:=.ref o) rfl (wpAny_bind (wpAny_setField_rec hz (by simp) fun g1 z1 s1=>?_)))))
 replace z1:IsZip g1 z p o .ellipsis:=z1
 refine wpAny_bind ?_
 simp only [List.zipIdx_cons,List.zipIdx_nil,List.forIn_cons,List.forIn_nil]
 refine wpAny_bind (wpAny_bind (wpAny_onRaise ?_))
 have k1:∀ c u,c≠z→s.heap.get? c=some u→g1.get? c=some u:=fun c u n e=>s1.extBut _ _ n e
 have i1:=hi.keep fun u e=>k1 _ u D.zi e
 have a1:=ha.keep fun u e=>k1 _ u D.az e
 cases hx:xs[m]? with
 | none =>
  refine wpAny_bind (m:=Builtin.SmallTypes.nextOf (.ref i)) (j6 a0 i1 a1 hx fun g2 e s2 he=>?_)
  obtain ⟨oe,hoe,hce⟩:=he
  have z2:IsZip g2 z p o .ellipsis:=s2 _ _ D.zi.symm z1
  have hez:e≠z:=fun x=>by subst x;rw [z2] at hoe;cases hoe;simp at hce
  exact wpAny_setField_rec z2 (by simp) fun g3 _ s3=>fin g3 e (fun c u n1 _ n3 _ x=>s3.extBut _ _ n1 (s2 _ _ n3 (k1 _ _ n1 x))) ⟨oe,s3.extBut _ _ hez hoe,hce⟩
 | some x =>
  have hy:ys[m]?=none:=by rcases hend with h | h;rw [hx] at h;cases h;exact h
  refine wpAny_bind (m:=Builtin.SmallTypes.nextOf (.ref i)) (wW i1 a1 hx fun g2 i2 s2=>wpAny_pure ?_)
  have k2:∀ c u,c≠i→g1.get? c=some u→g2.get? c=some u:=fun c u n e=>s2.extBut _ _ n e
  have o2:IsPair g2 o u v:=k2 _ _ D.oi (k1 _ _ D.zo ho)
  refine wpAny_bind (wpAny_seqItems o2 rfl (wpAny_bind (wpAny_updateSeq_pair o2 fun g3 o3 s3=>wpAny_bind (wpAny_letGo (wpAny_pure ?_)))))
  have k3:∀ c u,c≠o→g2.get? c=some u→g3.get? c=some u:=fun c u n e=>s3.extBut _ _ n e
  refine wpAny_bind (wpAny_bind (wpAny_onRaise ?_))
  refine wpAny_bind (m:=Builtin.SmallTypes.nextOf (.ref j)) (j6 a0 (hj.keep fun u e=>k3 _ u D.oj.symm (k2 _ u D.ij.symm (k1 _ u D.zj e))) (hb.keep fun u e=>k3 _ u D.bo (k2 _ u D.bi (k1 _ u D.bz e))) hy fun g4 e s4 he=>?_)
  obtain ⟨oe,hoe,hce⟩:=he
  have z4:IsZip g4 z p o .ellipsis:=s4 _ _ D.zj.symm (k3 _ _ D.zo.symm (k2 _ _ D.zi.symm z1))
  have hez:e≠z:=fun x=>by subst x;rw [z4] at hoe;cases hoe;simp at hce
  exact wpAny_setField_rec z4 (by simp) fun g5 _ s5=>fin g5 e (fun c u n1 n2 n3 n4 x=>s5.extBut _ _ n1 (s4 _ _ n4 (k3 _ _ n2 (k2 _ _ n3 (k1 _ _ n1 x))))) ⟨oe,s5.extBut _ _ hez hoe,hce⟩
abbrev zh (k l:Bool) (h:Heap) (a b:Addr):Heap:=((((h.push { cls:=.type (if k then "list_iterator" else "tuple_iterator"),data:=.fields #[.ref a,.int 0 0] }).push { cls:=.type (if l then "list_iterator" else "tuple_iterator"),data:=.fields #[.ref b,.int 0 0] }).push
 { cls:=.type "tuple",data:=.seq #[.ref h.objs.size,.ref (h.objs.size + 1)] }).push { cls:=.type "tuple",data:=.seq #[.none,.none] }).push { cls:=.type "zip",data:=.fields #[.none,.bool false,.bool false,.ref (h.objs.size + 2),.ref (h.objs.size + 3)] }
theorem zy (k l:Bool) (a b:Addr) (xs ys:Array Value):Meets (Builtin.«zip.__new__» ⟨[.type "zip",.ref a,.ref b],[]⟩) (fun _ R s=>SqA k s.heap a xs∧SqA l s.heap b ys∧R (.ok (.ret (.ref (s.heap.objs.size + 4)))) { s with heap:=zh k l s.heap a b }) :=
 .of_wp fun prog w A R s h=>by
  obtain ⟨hp,g,d,tk,os⟩:=s;obtain ⟨a1,a2,h⟩:=h
  have hsub:=sub_zip
  have b1:SqA k (Shared.heap ⟨hp,g,d,tk,os⟩) a xs:=a1
  have b2:SqA l (Shared.heap ⟨hp.push { cls:=.type (if k then "list_iterator" else "tuple_iterator"),data:=.fields #[.ref a,.int 0 0] },g,d,tk,os⟩) b ys:=SqA.keep a2 fun o e=>Heap.get?_push_of_some _ e
  wp_walk using u5 b1,u5 b2
  refine⟨_,rfl,?_⟩
  simp only [Heap.size_push]
  exact h
theorem Bs {k l:Bool} {a b:Addr} {xs ys:Array Value} {Q:Value→Shared→Prop} (a1:SqA k s.heap a xs) (a2:SqA l s.heap b ys)
  (h:ZAt k l (zh k l s.heap a b) (s.heap.objs.size + 4) (s.heap.objs.size + 2) (s.heap.objs.size + 3) s.heap.objs.size (s.heap.objs.size + 1) a b 0 xs ys→(∀ c o,s.heap.get? c=some o→(zh k l s.heap a b).get? c=some o)→Q (.ref (s.heap.objs.size + 4)) { s with heap:=zh k l s.heap a b }) :
  wpAny (model prog w) A (call (.type "zip") [.ref a,.ref b]) Q E s:=by
 refine callType_new F.called_zip (by decide) (F.typeCall_zip_2 _ _) (F.newCall_zip_2 _ _) (fun obj=>F.args_object_init_3 obj _ _) F.entry_zip_new (zy k l a b xs ys) ⟨a1,a2,?_⟩
 have up:∀ c o,s.heap.get? c=some o→(zh k l s.heap a b).get? c=some o:=fun c o e=>Heap.get?_push_of_some _ (Heap.get?_push_of_some _ (Heap.get?_push_of_some _ (Heap.get?_push_of_some _ (Heap.get?_push_of_some _ e))))
 have sz:∀ (h:Heap) (o:Obj) (n:Nat),h.objs.size=n→o.isFreed=false→(h.push o).get? n=some o:=fun h o n e f=>by rw [← e];exact Heap.get?_push_size _ f
 have e4:(zh k l s.heap a b).get? (s.heap.objs.size + 4)=some _:=sz _ _ _ (by simp only [Heap.size_push]) rfl
 have e3:(zh k l s.heap a b).get? (s.heap.objs.size + 3)=some _:=Heap.get?_push_of_some _ (sz _ _ _ (by simp only [Heap.size_push]) rfl)
 have e2:(zh k l s.heap a b).get? (s.heap.objs.size + 2)=some _:=Heap.get?_push_of_some _ (Heap.get?_push_of_some _ (sz _ _ _ (by simp only [Heap.size_push]) rfl))
 have e1:(zh k l s.heap a b).get? (s.heap.objs.size + 1)=some _:=Heap.get?_push_of_some _ (Heap.get?_push_of_some _ (Heap.get?_push_of_some _ (sz _ _ _ (by simp only [Heap.size_push]) rfl)))
 have e0:(zh k l s.heap a b).get? s.heap.objs.size=some _:=Heap.get?_push_of_some _ (Heap.get?_push_of_some _ (Heap.get?_push_of_some _ (Heap.get?_push_of_some _ (Heap.get?_push_size _ rfl))))
 have i0:ItA k (zh k l s.heap a b) s.heap.objs.size a 0:=by
  cases k
  ·exact⟨_,e0,rfl,rfl⟩
  ·exact⟨_,e0,rfl,rfl⟩
 have i1:ItA l (zh k l s.heap a b) (s.heap.objs.size + 1) b 0:=by
  cases l
  ·exact⟨_,e1,rfl,rfl⟩
  ·exact⟨_,e1,rfl,rfl⟩
 exact⟨⟨_,e4,rfl⟩,h ⟨e4,e2,⟨_,_,e3⟩,i0,i1,a1.keep fun o e=>up _ o e,a2.keep fun o e=>up _ o e⟩ up⟩
theorem ZAp.new {n a b:Nat} (h1:a < n) (h2:b < n):ZAp (n + 4) (n + 2) (n + 3) n (n + 1) a b:=by
 constructor<;>(intro e;have e:(_:Nat)=_:=e;omega)
end
theorem jJ {X:Cx} {pins:List (Addr×Obj)} {σ:L2.St} {H:Hp} {s:Shared} {h':Heap} {t':Nat} {fp:List Addr} (I:Inv X pins σ H s) (k:∀ b o,b∉fp→s.heap.get? b=some o→h'.get? b=some o) (hf:∀ b∈fp,FpOk X pins H b) :
  Inv X pins σ H { s with heap:=h',toks:=t' }:=by
 have nit:∀ b u,H b=some u→b∉fp:=fun b u e z=>by rw [(hf b z).1] at e;cases e
 refine I.step (g':=s.gens) (d':=s.drawn) (ch:=fp) (fun b hb=>?_) (fun b o _ _ hc e _=>k b o hc e) (fun b o _ _ hc e _=>⟨o.slots,k b o hc e⟩) (fun _ _ _ _ n=>n)
  (fun b o hc e=>⟨o,k b o hc e⟩) (fun _ _ e=>e) (fun _ _ _ e=>e) (fun b ps e=>⟨#[],by rw [e];simp⟩) (fun m hm=>?_) (fun b u e=>?_) I.bare
 ·obtain ⟨f0,f1,f2,f3,f4,f5⟩:=hf b hb
  exact⟨f3,f1,f4,f5⟩
 ·obtain ⟨o,es,ep,ho,r⟩:=hm
  exact⟨o,es,ep,k _ o (fun z=>(hf _ z).2.1 rfl) ho,r⟩
 ·refine (I.hok b u e).stay (fun c v hc q=>k c v ?_ q) (fun _ q=>q) fun _ _ q=>q
  rcases hc with z | z
  ·rw [z];exact nit b u e
  ·exact nit c _ z
def SqV (k:Bool) (K:PySem.W.Frag) (H:Hp) (a:Addr) (xs:List V):Prop:=match k with | true=>SqL K H a xs | false=>SqT K H a xs
theorem SqV.at {k:Bool} {X:Cx} {pins:List (Addr×Obj)} {σ:L2.St} {H:Hp} {s:Shared} {a:Addr} {xs:List V} (I:Inv X pins σ H s) (h:SqV k X.K H a xs):∃ its:List Value,Vals xs its∧SqA k s.heap a its.toArray:=by
 cases k
 ·obtain ⟨its,r,p,_⟩:=I.tuple h
  exact⟨its,r,p⟩
 ·obtain ⟨its,r,p,_⟩:=I.list h
  exact⟨its,r,p.isList⟩
theorem SqV.inj {k:Bool} {X:Cx} {pins:List (Addr×Obj)} {σ:L2.St} {H:Hp} {s:Shared} {a:Addr} {xs ys:List V} (I:Inv X pins σ H s) (h:SqV k X.K H a xs) (h':SqV k X.K H a ys):xs=ys:=by
 cases k
 ·exact I.tuple_inj h h'
 ·exact I.list_inj h h'
def Itz (K:PySem.W.Frag) (k l:Bool) (a b:Addr):It :=
  ⟨fun i H=>∃ xs ys x y,SqV k K H a xs∧SqV l K H b ys∧xs[i]?=some x∧ys[i]?=some y,
   fun i H v H'=>∃ T x y,H T=none∧H'=upd H T (.tup [x,y])∧v=.ref T∧(∀ xs,SqV k K H a xs→xs[i]?=some x)∧∀ ys,SqV l K H b ys→ys[i]?=some y,
   fun i H=>∃ xs ys,SqV k K H a xs∧SqV l K H b ys∧(xs.length≤i∨ys.length≤i)⟩
structure ZI (k l:Bool) (h:Heap) (z p o i j a b:Addr) (m:Nat):Prop where
 hz:IsZip h z p o .none
 hp:IsPair h p (.ref i) (.ref j)
 ho:∃ u v,IsPair h o u v
 hi:ItA k h i a m
 hj:ItA l h j b m
theorem ZAt.zi {k l:Bool} {h:Heap} {z p o i j a b:Addr} {m:Nat} {xs ys:Array Value} (Z:ZAt k l h z p o i j a b m xs ys):ZI k l h z p o i j a b m:=⟨Z.hz,Z.hp,Z.ho,Z.hi,Z.hj⟩
theorem uA {P:Program} {w:World} {K:PySem.W.Frag} {elts:List Expr} {x1} {pos:Pos} {k l:Bool} {z p o i j a b:Addr} (D:ZAp z p o i j a b) :
  Turn P w K (.Tuple elts x1 pos) (Itz K k l a b) [z,p,o,i,j] z (fun m h=>ZI k l h z p o i j a b m) where
 mem:=by simp
 obj:=fun m h Z c hc=>by
  simp only [List.mem_cons,List.not_mem_nil,or_false] at hc
  rcases hc with rfl | rfl | rfl | rfl | rfl
  ·exact⟨_,Z.hz,fun v=>nofun⟩
  ·exact⟨_,Z.hp,fun v=>nofun⟩
  ·obtain ⟨u,v,e⟩:=Z.ho
   exact⟨_,e,fun v=>nofun⟩
  ·obtain ⟨q,e,_,d⟩:=Z.hi.obj
   exact⟨q,e,fun v=>by rw [d];nofun⟩
  ·obtain ⟨q,e,_,d⟩:=Z.hj.obj
   exact⟨q,e,fun v=>by rw [d];nofun⟩
 keep:=fun m h h' Z kk=>⟨kk _ (by simp) _ Z.hz,kk _ (by simp) _ Z.hp,(by obtain ⟨u,v,e⟩:=Z.ho;exact⟨u,v,kk _ (by simp) _ e⟩),Z.hi.keep fun q e=>kk _ (by simp) q e,Z.hj.keep fun q e=>kk _ (by simp) q e⟩
 item:=by
  intro X hP hw hK hc m pins s σ H E I hf Z hg
  subst hP hw hK
  obtain ⟨xs,ys,x,y,h1,h2,hx,hy⟩:=hg
  obtain ⟨is,r1,p1⟩:=SqV.at I h1
  obtain ⟨js,r2,p2⟩:=SqV.at I h2
  obtain ⟨u,hu,ru⟩:=r1.get hx
  obtain ⟨v,hv,rv⟩:=r2.get hy
  refine thn (AU (E:=E) (Q:=fun _ s2=>∃ x H',Inv X pins σ H' s2∧RelV x (.ref s.heap.objs.size)∧(Itz X.K k l a b).yld m H x H'∧ZI k l s2.heap z p o i j a b (m + 1)∧∀ b∈[z,p,o,i,j],H' b=none) (elts:=elts) (x1:=x1) (pos:=pos) D ⟨Z.hz,Z.hp,Z.ho,Z.hi,Z.hj,p1,p2⟩ (x:=u) (y:=v) (by simpa using hu) (by simpa using hv) fun h' Z' t' n' kk=>?_) fun r s1 ⟨u',e1,e2,q⟩=>⟨u',e1,by subst e2;exact q⟩
  have hfr:H s.heap.objs.size=none:=I.hok.fresh (Nat.le_refl _)
  have I1:Inv X pins σ (upd H s.heap.objs.size (.tup [x,y])) { s with heap:=s.heap.push { cls:=.type "tuple",data:=.seq #[u,v] } }:=I.laid (t':=s.toks) (fun b u e=>Heap.get?_push_of_some _ e) (Nat.le_refl _) ⟨by show 2≤sizeLine;decide,[u,v],.cons ru (.cons rv .nil),⟨_,Heap.get?_push_size _ rfl,rfl,_,rfl⟩⟩
  have lt:∀ c∈[z,p,o,i,j],c≠s.heap.objs.size:=fun c hc=>by
   have:∃ q,s.heap.get? c=some q:=by
    simp only [List.mem_cons,List.not_mem_nil,or_false] at hc
    rcases hc with rfl | rfl | rfl | rfl | rfl
    ·exact⟨_,Z.hz⟩
    ·exact⟨_,Z.hp⟩
    ·obtain ⟨u,v,e⟩:=Z.ho;exact⟨_,e⟩
    ·obtain ⟨q,e,_⟩:=Z.hi.obj;exact⟨q,e⟩
    ·obtain ⟨q,e,_⟩:=Z.hj.obj;exact⟨q,e⟩
   obtain ⟨q,e⟩:=this
   exact Nat.ne_of_lt (Heap.lt_size e)
  have fr:∀ c∈[z,p,o,i,j],upd H s.heap.objs.size (.tup [x,y]) c=none:=fun c hc=>by rw [aE (lt c hc)];exact (hf c hc).1
  have I2:Inv X pins σ (upd H s.heap.objs.size (.tup [x,y])) { s with heap:=h' }:=jJ (s:={ s with heap:=s.heap.push { cls:=.type "tuple",data:=.seq #[u,v] } }) (t':=s.toks) (fp:=[z,p,o,i,j]) I1 (fun c q hc e=>?_) fun c hc=>⟨fr c hc,(hf c hc).2⟩
  ·exact⟨.ref s.heap.objs.size,_,I2,rfl,⟨_,x,y,hfr,rfl,rfl,fun zs hz=>by rw [SqV.inj I hz h1];exact hx,fun zs hz=>by rw [SqV.inj I hz h2];exact hy⟩,Z'.zi,fr⟩
  ·rcases Heap.get?_push_cases e with ⟨rfl,rfl⟩ | e
   ·exact t'
   ·exact kk c q (fun z=>hc (by simp [z])) (fun z=>hc (by simp [z])) (fun z=>hc (by simp [z])) (fun z=>hc (by simp [z])) e
 done:=by
  intro X hP hw hK hc m pins s σ H E I hf Z hg
  subst hP hw hK
  obtain ⟨xs,ys,h1,h2,hl⟩:=hg
  obtain ⟨is,r1,p1⟩:=SqV.at I h1
  obtain ⟨js,r2,p2⟩:=SqV.at I h2
  have l1:=r1.length
  have l2:=r2.length
  refine A6 (I.ok.hd hc) D ⟨Z.hz,Z.hp,Z.ho,Z.hi,Z.hj,p1,p2⟩ (hl.imp (fun h=>by simp;omega) fun h=>by simp;omega) fun h' kk=>⟨rfl,jJ (t':=s.toks) (fp:=[z,p,o,i,j]) I (fun c q hc e=>?_) hf⟩
  exact kk c q (fun z=>hc (by simp [z])) (fun z=>hc (by simp [z])) (fun z=>hc (by simp [z])) (fun z=>hc (by simp [z])) e
 self:=fun _ _ _ _ _ Z h=>wpAny_pyIter_zip Z.hz h
section
variable {X:Cx}
def iZip (K:PySem.W.Frag) (k l:Bool) (ta:TA):TI:=fun σ H R=>ta σ H fun vs H1=>∃ a b,vs=[.ref a,.ref b]∧(∃ xs,SqV k K H1 a xs)∧(∃ ys,SqV l K H1 b ys)∧R (Itz K k l a b) H1
theorem yZ {k l:Bool} {a b:Expr} {ta:TA} {p pos:Pos} {elts:List Expr} {x1} {pos':Pos} (hg:Gl X "zip") (hm:X.mg "zip"=none) (ha:PA X [a,b] ta) (hs:starEach [a,b] X.env=[(false,eval a X.env),(false,eval b X.env)]:=by rfl) (hs2:starEach [b] X.env=[(false,eval b X.env)]:=by rfl) :
  PI X (.Tuple elts x1 pos') (.Call (.Name "zip" p) [a,b] [] pos) (iZip X.K k l ta):=by
 intro pins s σ H R I h
 refine Call_ (iw I hg hm boot_zip (PyProof.Rows.callWith_type1 (thn (ha pos pins s σ H _ I h) fun us s1 ⟨vs,H1,I1,r1,q1⟩=>?_) (by rw [hs,hs2]) (by rw [hs2];rfl)))
 obtain ⟨c,d,e,⟨xs,hx⟩,⟨ys,hy⟩,q⟩:=q1
 subst e
 cases r1 with
 | cons r rr =>
  cases rr with
  | cons r' rr =>
   cases rr
   cases r
   cases r'
   obtain ⟨is,_,p1⟩:=SqV.at I1 hx
   obtain ⟨js,_,p2⟩:=SqV.at I1 hy
   refine Bs p1 p2 fun Z up=>wpAny_pyIter_zip Z.hz ?_
   have lt:∀ {k:Bool} {c:Addr} {zs:Array Value},SqA k s1.heap c zs→c < s1.heap.objs.size:=fun h=>let ⟨_,e,_⟩:=h.there;Heap.lt_size e
   refine⟨_,_,_,_,H1,rfl,I1.kept (t':=s1.toks) up,uA (ZAp.new (lt p1) (lt p2)),Z.zi,fun b hb=>?_,q⟩
   have hb:s1.heap.objs.size≤b:=by
    simp only [List.mem_cons,List.not_mem_nil,or_false] at hb
    rcases hb with rfl | rfl | rfl | rfl | rfl
    ·exact Nat.le_add_right ..
    ·exact Nat.le_add_right ..
    ·exact Nat.le_add_right ..
    ·exact Nat.le_refl _
    ·exact Nat.le_add_right ..
   exact I1.fpOk hb (I1.hok.fresh hb)
end
def sq (k:Bool) (xs:List D):D:=match k with | true=>.lst xs | false=>.tup xs
def zipD (xs ys:List D):List D:=List.zipWith (fun x y=>D.tup [x,y]) xs ys
def Ai (k l:Bool) (t:TDA):TDC:=fun δ R=>t δ fun ds δ1=>∃ xs ys,ds=[sq k xs,sq l ys]∧R (zipD xs ys) δ1
section
variable {X:Cx} {ta:TDA}
theorem rY {k:Bool} {K:PySem.W.Frag} {M:Addr→Prop} {H:Hp} {xs:List D} {v:V} (h:Rep K M H (sq k xs) v):∃ a vs,v=.ref a∧SqV k K H a vs∧Reps K M H xs vs:=by
 cases k
 ·unfold sq Rep at h
  exact h
 ·unfold sq Rep at h
  obtain ⟨a,vs,e,_,l,r⟩:=h
  exact⟨a,vs,e,SqL.of l,r⟩
theorem kG (k l:Bool) {a b:Expr} {p pos:Pos} {elts:List Expr} {x1} {pos':Pos} (hg:Gl X "zip") (hm:X.mg "zip"=none) (ha:DA X [a,b] ta) (hs:starEach [a,b] X.env=[(false,eval a X.env),(false,eval b X.env)]:=by rfl) (hs2:starEach [b] X.env=[(false,eval b X.env)]:=by rfl) :
  CI X (.Tuple elts x1 pos') (.Call (.Name "zip" p) [a,b] [] pos) (Ai k l ta) :=
 ⟨_,yZ (k:=k) (l:=l) hg hm ha hs hs2,fun G δ P σ H R Q s hs kk=>⟨G,δ,P,_,s,hs,fun ds δ1 h1 vs H1 hl s1=>by
  obtain ⟨xs,ys,e,r⟩:=h1
  subst e
  match vs,hl with
  | [v,w],_ =>
   have s2:S X.K G δ1 ((sq k xs,v) :: (sq l ys,w) :: P) σ H1:=s1
   have at1:∀ A δ σ H,Sx X.K G A δ ((sq k xs,v) :: (sq l ys,w) :: P) σ H→∃ a vs,v=.ref a∧SqV k X.K H a vs∧Reps X.K (fun b=>G.M0 b∨A b) H xs vs:=fun A δ σ H x=>rY (x.pnd (sq k xs,v) (by simp))
   have at2:∀ A δ σ H,Sx X.K G A δ ((sq k xs,v) :: (sq l ys,w) :: P) σ H→∃ a vs,w=.ref a∧SqV l X.K H a vs∧Reps X.K (fun b=>G.M0 b∨A b) H ys vs:=fun A δ σ H x=>rY (x.pnd (sq l ys,w) (by simp))
   obtain ⟨A1,x1⟩:=id s2
   obtain ⟨a,vs0,rfl,l0,_⟩:=at1 _ _ _ _ x1
   obtain ⟨b,ws0,rfl,m0,_⟩:=at2 _ _ _ _ x1
   have hlen:(zipD xs ys).length=min xs.length ys.length:=by unfold zipD;rw [List.length_zipWith]
   refine⟨a,b,rfl,⟨vs0,l0⟩,⟨ws0,m0⟩,kk _ δ1 r _ _ H1 (fun q hq=>by simp [hq]) s2 (fun A δ σ i H x hi=>?_) (fun A δ σ H x=>?_) fun A δ σ i y H H2 x hi hy=>?_⟩
   ·obtain ⟨_,vs,e,l,r⟩:=at1 _ _ _ _ x
    cases e
    obtain ⟨_,ws,e,l2,r2⟩:=at2 _ _ _ _ x
    cases e
    obtain ⟨v',hv,_⟩:=Reps.get _ _ r i (xs[i]'(by omega)) (by simp)
    obtain ⟨w',hw,_⟩:=Reps.get _ _ r2 i (ys[i]'(by omega)) (by simp)
    exact⟨vs,ws,v',w',l,l2,hv,hw⟩
   ·obtain ⟨_,vs,e,l,r⟩:=at1 _ _ _ _ x
    cases e
    obtain ⟨_,ws,e,l2,r2⟩:=at2 _ _ _ _ x
    cases e
    have:=Reps.length _ _ r
    have:=Reps.length _ _ r2
    exact⟨vs,ws,l,l2,by omega⟩
   ·obtain ⟨_,vs,e,l,r⟩:=at1 _ _ _ _ x
    cases e
    obtain ⟨_,ws,e,l2,r2⟩:=at2 _ _ _ _ x
    cases e
    obtain ⟨T,x',y',hT,rfl,rfl,hx,hy⟩:=hy
    have hi1:i < xs.length:=by omega
    have hi2:i < ys.length:=by omega
    obtain ⟨v',hv,rv⟩:=Reps.get _ _ r i xs[i] (by simp [hi1])
    obtain ⟨w',hw,rw'⟩:=Reps.get _ _ r2 i ys[i] (by simp [hi2])
    have e1:=hx vs l
    have e2:=hy ws l2
    rw [hv] at e1
    rw [hw] at e2
    have e1:=Option.some.inj e1
    have e2:=Option.some.inj e2
    rw [e1] at rv
    rw [e2] at rw'
    have sm:Same H (upd H T (.tup [x',y'])):=aD hT _
    refine⟨sm,.tup [xs[i],ys[i]],?_,?_⟩
    ·unfold zipD
     rw [List.getElem?_zipWith,List.getElem?_eq_getElem hi1,List.getElem?_eq_getElem hi2]
    ·unfold Rep
     exact⟨T,[x',y'],rfl,.inl (.inl aq),Reps.cons (Rep.kp (Kp.of_same sm) _ _ rv) (Reps.one (Rep.kp (Kp.of_same sm) _ _ rw'))⟩⟩⟩
end
def dFor (src:TDC) (g:TDG) (tb:TDS):TDS:=fun R δ=>src δ fun xs δ1=>∃ I:Nat→En→Prop,I 0 δ1 ∧
 (∀ i x δ',xs[i]?=some x→I i δ'→g x δ' fun δ2=>tb { R with nx:=I (i + 1),ct:=I (i + 1),bk:=R.nx,tp:=False } δ2)∧∀ δ',I xs.length δ'→R.nx δ'
theorem fZ {X:Cx} {pos:Pos} {tg e:Expr} {src:TDC} {g:TDG} {t:TDS} {body:List Stmt} (hp:PassesOwn (model X.prog X.w) X.A X.env X.xe) (hc:X.calm=true) (hi:CI X tg e src) (hg:DG X tg g) (hb:DSs X body t) (hs:∀ x,foldedSetIterable e X.env x=pure x:=by intro _;rfl) :
  DS X (.For tg e body [] pos) (dFor src g t):=by
 obtain ⟨wi,hi,hw⟩:=hi
 refine PS.imp (mL hp hc hi hg hb hs) fun E σ H ⟨G,δ,P,R,s,h,k1,k2,k3,k4⟩=>?_
 refine hw G δ P σ H _ _ s h fun xs δ1 ⟨I,i0,turn,fin⟩ J P1 H1 hP s1 hgo hst hyl=>?_
 refine⟨fun i m σ H=>m=xs.length - i∧i≤xs.length∧∃ δ,I i δ∧S X.K G δ P1 σ H,⟨xs.length,by simp,Nat.zero_le _,δ1,i0,s1⟩,?_⟩
 rintro i m σ H ⟨rfl,hi,δ',ii,s'⟩
 obtain ⟨A,x⟩:=id s'
 by_cases hlt:i < xs.length
 ·refine .inr ⟨hgo A _ _ i H x hlt,fun σ' H'=>∃ δ',I (i + 1) δ'∧S X.K G δ' P1 σ' H',fun σ' H' ⟨δ',p',s'⟩=>⟨xs.length - (i + 1),by omega,rfl,hlt,δ',p',s'⟩,fun y H' hy=>?_⟩
  obtain ⟨sm,d,hd,rd⟩:=hyl A _ _ i y H H' x hlt hy
  refine⟨G,δ',P1,d,_,⟨A,(x.same sm).push rd⟩,turn i d δ' hd ii,fun δ2 h2 σ2 H2 s2=>?_⟩
  refine⟨G,δ2,P1,_,s2,h2,fun δ3 h3 σ3 H3 s3=>⟨δ3,h3,s3⟩,⟨fun d δ3 h3 v3 σ3 H3 s3=>k2.1 d δ3 h3 v3 σ3 H3 (s3.sub fun p hp=>?_),k2.2⟩,fun δ3 h3 σ3 H3 s3=>k1 δ3 h3 σ3 H3 (s3.sub fun p hp=>hP p hp),fun δ3 h3 σ3 H3 s3=>⟨δ3,h3,s3⟩,fun z=>z.elim⟩
  rcases List.mem_cons.mp hp with rfl | hp
  ·simp
  ·simp [hP p hp]
 ·have e:i=xs.length:=by omega
  subst e
  exact .inl ⟨hst A _ _ H x,k1 δ' (fin δ' ii) σ H (s'.sub fun p hp=>hP p hp)⟩
end DL
namespace DL
open PySem PySem.Spec PyProof.Rows L2
section
variable {X:Cx}
def fSum:List D→(D→Prop)→Prop
 | [.lst ds],R=>∃ ns:List Int,ds=ns.map D.int∧R (.int ns.sum)
 | _,_=>False
theorem tZ {ds:List D} {R:D→Prop}:fSum [.lst ds] R↔∃ ns:List Int,ds=ns.map D.int∧R (.int ns.sum):=Iff.rfl
def fMin:List D→(D→Prop)→Prop
 | [.int i,.int j],R=>R (.int (min i j))
 | _,_=>False
theorem wC {d0:List D} {R:D→Prop} (h:fMin d0 R):∃ (i:Int) (j:Int),d0=[.int i,.int j]∧R (.int (min i j)):=by
 rcases d0 with _ | ⟨a,_ | ⟨b,_ | ⟨c,l⟩⟩⟩
 ·exact False.elim h
 ·cases a<;>exact False.elim h
 ·cases a<;>first | exact False.elim h | (cases b<;>first | exact False.elim h | exact⟨_,_,rfl,h⟩)
 ·cases a<;>first | exact False.elim h | (cases b<;>exact False.elim h)
theorem t7 {i j:Int} {R:D→Prop}:fMin [.int i,.int j] R↔R (.int (min i j)):=Iff.rfl
theorem AF (hc:X.calm=true):cc X (.builtin "min") (aS X.K fMin):=by
 intro pins s σ H xs us Q I rv h
 obtain ⟨M,ds,R,m,rs,h,k⟩:=h
 replace h:=wC h
 obtain ⟨i,j,rfl,h⟩:=h
 ·skip
  refine rS hc pins s σ H xs us Q I rv ?_
  obtain ⟨x,y,rfl,h1,h2⟩:=fg rs
  refine⟨i,j,by rw [aO h1,aO h2],k _ h _ H (Same.refl H) ?_⟩
  unfold Rep
  congr 1
  by_cases z:j < i
  ·rw [if_pos z];omega
  ·rw [if_neg z];omega
def yT (i:Nat) (tk tx:TDE):TDE:=fun δ R=>∃ a ks ds,δ[i]?=some (.own a (.dct ks ds))∧tk δ (wd fun z δ1=>tx δ1 (wd fun x δ2=>∃ ks ds y,δ2[i]?=some (.own a (.dct ks ds))∧z=.str y∧R (.d ((dAt ks ds y).getD x)) δ2))
variable {e f:Expr} {ta tb:TDE} {pos:Pos}
theorem lx (i:Nat) {y:Str} {p apos cpos:Pos} (hu:X.A.units + 64 < cLine) (he:DE X e ta) (hf:DE X f tb) (hN:X.N[i]?=some y:=by rfl) (hv:Vis X.env.scope y:=by walk_at "v3")
  (hd:(y == ("__debug__":Str))=false:=by decide) (hcd:(y == ("__classdict__":Str))=false:=by decide) (m:M2 X (.Name y p) "get" apos e f cpos:=by exact⟨rfl,rfl,rfl,rfl⟩) :
  DE X (.Call (.Attribute (.Name y p) "get" apos) [e,f] [] cpos) (yT i ta tb) :=
 PE.imp (sS (by omega) (cE hN hv hd hcd) he hf m) fun σ H Q ⟨G,δ,P,R,s,⟨a,ks0,ds0,hi0,h1⟩,k,_⟩=>⟨.ref a,s.own hi0,a,rfl,by
  obtain ⟨A,q⟩:=id s
  obtain ⟨_,aa,vs,hvs,l,rs⟩:=q.own i a _ hi0
  exact .inl ⟨_,.inl hvs⟩,up.mk s h1 fun z δ1 h2 v H1 s1=>up.mk s1 h2 fun x δ2 ⟨ks,ds,y,hi,ez,r⟩ w H2 ⟨A,q⟩=>by
   subst ez
   obtain ⟨_,aa,vs,hvs,l,rs⟩:=q.own i a _ hi
   have p2:v=.str y:=bu (q.pnd (.str y,v) (by simp))
   have g:=DGet.k (k:=Sum.inr y) hvs
   rw [fu] at g
   refine⟨_,by rw [p2];exact g,?_⟩
   cases ed:dAt ks ds y with
   | some d =>
    obtain ⟨w',hw,rw'⟩:=(Reps.dAt y ks ds vs rs).1 d ed
    rw [ed] at r
    rw [hw]
    exact k d δ2 r w' H2 ⟨A,(q.sub (P':=P) fun p hp=>by simp [hp]).push rw'⟩
   | none =>
    have hw:=(Reps.dAt y ks ds vs rs).2 ed
    rw [ed] at r
    rw [hw]
    exact k x δ2 r w H2 ⟨A,q.sub fun p hp=>by
     rcases List.mem_cons.mp hp with rfl | hp
     ·simp
     ·simp [hp]⟩⟩
end
end DL
namespace DL
open PySem PyProof.Rows
end DL
namespace DL
open PySem PySem.Spec PyProof.Rows L2
def dAug (i:Nat) (te:TDE):TDS:=fun R δ=>∃ n:Int,δ[i]?=some (.dat (.int n))∧te δ (wd fun d δ1=>∃ k:Int,d=.int k∧R.nx (δ1.set i (.dat (.int (n + k)))))
end DL
namespace Mf
open PySem L2 DL
def tmD (t:Str×Int):D:=.tup [.str t.1,.int t.2]
structure Bj (names:List Str) (ts:List (Str×Int)):Prop where
 sub:(ts.map (·.1)).Sublist names
 nz:∀ t∈ts,t.2≠0
 bits:∀ t∈ts,Builtin.Int.intBits t.2≤10000
theorem b8 {ts:List (Str×Int)} {i:Nat} {d:D} (h:(ts.map tmD)[i]?=some d):∃ t,ts[i]?=some t∧d=.tup [.str t.1,.int t.2]:=by
 rw [List.getElem?_map] at h
 cases e:ts[i]? with
 | none=>rw [e] at h;cases h
 | some n=>rw [e] at h;exact⟨n,rfl,(Option.some.inj h).symm⟩
theorem aG {α:Type} {l:List α} {i:Nat} {x:α} (h:l[i]?=some x):l.take (i + 1)=l.take i++[x]:=by rw [List.take_add_one,h];rfl
inductive Kd where
 | least | more
def kdS:Kd→Str
 | .least=>"least"
 | .more=>"more"
def rowD (k:Kd) (ts:List (Str×Int)) (b:Int):D:=.tup [.str (kdS k),.tup (ts.map tmD),.int b]
theorem pW:∀ ts:List (Str×Int),D.nds (ts.map tmD)=true
 | []=>rfl
 | t :: r=>by rw [List.map_cons];unfold D.nds;rw [pW r];rfl
theorem sr:∀ ts:List (Str×Int),D.dps (ts.map tmD)≤1
 | []=>Nat.zero_le _
 | t :: r=>by
  rw [List.map_cons];unfold D.dps
  exact Nat.max_le.mpr ⟨by show 1≤1;decide,sr r⟩
def frD (p:Int×Int):D:=.tup [.int p.1,.int p.2]
theorem mB:∀ ps:List (Int×Int),D.nds (ps.map frD)=true
 | []=>rfl
 | p :: r=>by rw [List.map_cons];unfold D.nds;rw [mB r];rfl
def ptOf (ks:List Str) (ps:List (Int×Int)) (n:Str):Int×Int:=(dAt ks ps n).getD (0,1)
def pT (ks:List Str) (ps:List (Int×Int)) (n:Str):Int:=(ptOf ks ps n).1
def pB (ks:List Str) (ps:List (Int×Int)) (n:Str):Int:=(ptOf ks ps n).2
theorem pP {α β:Type} (f:α→β):∀ (ks:List Str) (ps:List α) (n:Str),dAt ks (ps.map f) n=(dAt ks ps n).map f
 | [],ps,n=>by cases ps<;>rfl
 | k :: ks,[],n=>rfl
 | k :: ks,p :: ps,n=>by
  show (if k=n then some (f p) else dAt ks (ps.map f) n)=(if k=n then some p else dAt ks ps n).map f
  by_cases e:k=n
  ·rw [if_pos e,if_pos e];rfl
  ·rw [if_neg e,if_neg e];exact pP f ks ps n
theorem rM {α:Type}:∀ {ks:List Str} {ps:List α} {n:Str} {p:α},dAt ks ps n=some p→p∈ps
 | [],ps,n,p,h=>by cases ps<;>cases h
 | k :: ks,[],n,p,h=>by cases h
 | k :: ks,x :: ps,n,p,h=>by
  have h:(if k=n then some x else dAt ks ps n)=some p:=h
  by_cases e:k=n
  ·rw [if_pos e] at h;cases h;exact List.mem_cons_self ..
  ·rw [if_neg e] at h;exact List.mem_cons_of_mem _ (rM h)
theorem fc {names:List Str} {i:Nat} {d:D} (h:(names.map D.str)[i]?=some d):∃ n,names[i]?=some n∧d=.str n:=by
 rw [List.getElem?_map] at h
 cases e:names[i]? with
 | none=>rw [e] at h;cases h
 | some n=>rw [e] at h;exact⟨n,rfl,(Option.some.inj h).symm⟩
theorem nO {ks:List Str} {x:Str} (h:x∉ks):kPut ks x=ks++[x]:=by unfold kPut;rw [if_neg h]
theorem nV {ks:List Str} {ds:List D} {x:Str} {y:D} (h:x∉ks):vPut ks ds x y=ds++[y]:=by unfold vPut;rw [if_neg h]
theorem uB {l:List Str} {i:Nat} {x:Str} (nd:l.Nodup) (h:l[i]?=some x):x∉l.take i:=by
 intro hm
 obtain ⟨j,hj,e⟩:=List.getElem_of_mem hm
 rw [List.length_take] at hj
 rw [List.getElem_take] at e
 obtain ⟨hi,e2⟩:=List.getElem?_eq_some_iff.mp h
 have:=(List.getElem_inj (h₀:=by omega) (h₁:=hi) nd).mp (e.trans e2.symm)
 omega
theorem pD {l:List Str} {i:Nat} {x:Str} (h:l[i]?=some x):x∈l:=List.mem_of_getElem? h
theorem cv {α:Type} (f:Str→α):∀ {names:List Str} {n:Str},n∈names→dAt names (names.map f) n=some (f n)
 | x :: r,n,h=>by
  show (if x=n then some (f x) else dAt r (r.map f) n)=_
  by_cases e:x=n
  ·rw [if_pos e,e]
  ·rw [if_neg e]
   exact cv f ((List.mem_cons.mp h).resolve_left fun z=>e z.symm)
abbrev Rw:=Kd×List (Str×Int)×Int
def rwD (r:Rw):D:=rowD r.1 r.2.1 r.2.2
def cf:List (Str×Int)→Str→Int
 | [],_=>0
 | t :: r,n=>(if t.1=n then t.2 else 0) + cf r n
def cfs:List (Rw×Int)→Str→Int
 | [],_=>0
 | p :: r,n=>p.2 * cf p.1.2.1 n + cfs r n
def bds:List (Rw×Int)→Int
 | []=>0
 | p :: r=>p.2 * p.1.2.2 + bds r
def isM:Kd→Bool
 | .least=>false
 | .more=>true
def stc (l:List (Rw×Int)):Bool:=l.any fun p=>isM p.1.1 && decide (0 < p.2)
def kOf:Bool→Kd
 | true=>.more
 | false=>.least
theorem ig {n:Str}:∀ {a b:List (Str×Int)},cf (a++b) n=cf a n + cf b n
 | [],b=>(Int.zero_add _).symm
 | t :: a,b=>by show _ + cf (a++b) n=_ + cf a n + _;rw [ig];omega
theorem jp {n:Str}:∀ {a b:List (Rw×Int)},cfs (a++b) n=cfs a n + cfs b n
 | [],b=>(Int.zero_add _).symm
 | t :: a,b=>by show _ + cfs (a++b) n=_ + cfs a n + _;rw [jp];omega
theorem i6:∀ {a b:List (Rw×Int)},bds (a++b)=bds a + bds b
 | [],b=>(Int.zero_add _).symm
 | t :: a,b=>by show _ + bds (a++b)=_ + bds a + _;rw [i6];omega
theorem qk {a b:List (Rw×Int)}:stc (a++b)=(stc a || stc b):=List.any_append
theorem sC {p:Rw×Int}:stc [p]=(isM p.1.1 && decide (0 < p.2)):=by unfold stc;simp
theorem iy {n:Str}:∀ {ts:List (Str×Int)},n∉ts.map (·.1)→cf ts n=0
 | [],_=>rfl
 | t :: r,h=>by
  rw [List.map_cons,List.mem_cons,not_or] at h
  show (if t.1=n then t.2 else 0) + cf r n=0
  rw [if_neg (fun z=>h.1 z.symm),iy h.2];rfl
structure dB (F:Str→Int) (ts:List (Str×Int)):Prop where
 pw:(ts.map (·.1)).Pairwise leS
 nd:(ts.map (·.1)).Nodup
 val:∀ t∈ts,t.2=F t.1∧t.2≠0
 all:∀ n,F n≠0→n∈ts.map (·.1)
theorem dB.ext {F:Str→Int} {ts us:List (Str×Int)} (h1:∀ t∈ts,t.2=F t.1) (h2:∀ t∈us,t.2=F t.1) (h:ts.map (·.1)=us.map (·.1)):ts=us:=by
 have e:∀ {l:List (Str×Int)},(∀ t∈l,t.2=F t.1)→l=(l.map (·.1)).map fun n=>(n,F n):=fun {l} hl=>by
  rw [List.map_map]
  conv=>lhs;rw [← List.map_id l]
  refine List.map_congr_left fun t ht=>?_
  show t=(t.1,F t.1)
  rw [← hl t ht]
 rw [e h1,e h2,h]
theorem dB.uniq {F:Str→Int} {ts us:List (Str×Int)} (a:dB F ts) (b:dB F us):ts=us:=by
 refine dB.ext (fun t h=>(a.val t h).1) (fun t h=>(b.val t h).1) (g6 a.pw b.pw a.nd b.nd fun n=>⟨fun h=>b.all n ?_,fun h=>a.all n ?_⟩)
 ·obtain ⟨t,ht,rfl⟩:=List.mem_map.mp h
  rw [← (a.val t ht).1];exact (a.val t ht).2
 ·obtain ⟨t,ht,rfl⟩:=List.mem_map.mp h
  rw [← (b.val t ht).1];exact (b.val t ht).2
theorem dB.mk' {F:Str→Int} {ns:List Str} (pw:ns.Pairwise leS) (nd:ns.Nodup) (all:∀ n,F n≠0→n∈ns):dB F ((ns.filter fun n=>decide (F n≠0)).map fun n=>(n,F n)):=by
 have e:((ns.filter fun n=>decide (F n≠0)).map fun n=>(n,F n)).map (·.1)=ns.filter fun n=>decide (F n≠0):=by rw [List.map_map];exact List.map_id _
 refine⟨by rw [e];exact pw.filter _,by rw [e];exact nd.filter _,fun t ht=>?_,fun n hn=>?_⟩
 ·obtain ⟨n,h1,rfl⟩:=List.mem_map.mp ht
  exact⟨rfl,by simpa using (List.mem_filter.mp h1).2⟩
 ·rw [e,List.mem_filter]
  exact⟨all n hn,by simpa using hn⟩
theorem nM {f g:Str→D} {x:Str} (h:∀ n,n≠x→g n=f n):∀ ks:List Str,vRep ks (ks.map f) x (g x)=ks.map g
 | []=>rfl
 | k :: ks=>by
  show (if k=x then g x else f k) :: vRep ks (ks.map f) x (g x)=g k :: ks.map g
  rw [nM h ks]
  by_cases e:k=x
  ·rw [if_pos e,e]
  ·rw [if_neg e,h k e]
theorem lQ {f g:Str→D} {x:Str} {ks:List Str} (h:∀ n,n≠x→g n=f n):vPut ks (ks.map f) x (g x)=(kPut ks x).map g:=by
 unfold vPut kPut
 by_cases e:x∈ks
 ·rw [if_pos e,if_pos e,nM h]
 ·rw [if_neg e,if_neg e,List.map_append]
  congr 1
  exact List.map_congr_left fun n hn=>(h n fun z=>e (z ▸ hn)).symm
theorem fR {ks:List Str} {x:Str} (h:ks.Nodup):(kPut ks x).Nodup:=by
 unfold kPut
 by_cases e:x∈ks
 ·rw [if_pos e];exact h
 ·rw [if_neg e,List.nodup_append]
  exact⟨h,by simp,fun a ha b hb z=>by rw [List.mem_singleton.mp hb] at z;exact e (z ▸ ha)⟩
theorem cN {ks:List Str} {x n:Str}:n∈kPut ks x↔n∈ks∨n=x:=by
 unfold kPut
 by_cases e:x∈ks
 ·rw [if_pos e]
  exact⟨.inl,fun h=>h.elim id fun z=>z ▸ e⟩
 ·rw [if_neg e,List.mem_append,List.mem_singleton]
theorem dD:∀ {ks nm:List Str},ks.Nodup→(∀ n∈ks,n∈nm)→ks.length≤nm.length
 | [],_,_,_=>Nat.zero_le _
 | k :: ks,nm,h,hs=>by
  obtain ⟨h1,h2⟩:=List.nodup_cons.mp h
  have hk:=hs k (List.mem_cons_self ..)
  have:=dD (ks:=ks) (nm:=nm.erase k) h2 fun n hn=>(List.mem_erase_of_ne (fun z=>h1 (by rw [← z];exact hn))).mpr (hs n (List.mem_cons_of_mem _ hn))
  rw [List.length_erase_of_mem hk] at this
  have:0 < nm.length:=List.length_pos_of_mem hk
  rw [List.length_cons]
  omega
theorem lS {α:Type} {x:Str}:∀ {ks:List Str} {ds:List α},x∉ks→dAt ks ds x=none
 | [],ds,_=>by cases ds<;>rfl
 | k :: ks,[],_=>rfl
 | k :: ks,d :: ds,h=>by
  rw [List.mem_cons,not_or] at h
  show (if k=x then some d else dAt ks ds x)=none
  rw [if_neg (fun z=>h.1 z.symm)]
  exact lS h.2
theorem ju {F:Str→Int} {ks:List Str} {x:Str} (h:x∉ks→F x=0):(dAt ks (ks.map fun n=>D.int (F n)) x).getD (.int 0)=.int (F x):=by
 by_cases e:x∈ks
 ·rw [cv (fun n=>D.int (F n)) e];rfl
 ·rw [lS e,h e];rfl
theorem ng {rows:List Rw} {ws:List Int}:zipD (rows.map rwD) (ws.map D.int)=(rows.zip ws).map fun p=>D.tup [rwD p.1,.int p.2]:=by
 unfold zipD
 rw [List.zipWith_map,List.zip,List.map_zipWith]
theorem jB:∀ rows:List Rw,D.nds (rows.map rwD)=true
 | []=>rfl
 | r :: rs=>by
  rw [List.map_cons];unfold D.nds;rw [jB rs,Bool.and_true]
  show D.nds [.str _,.tup (r.2.1.map tmD),.int _]=true
  simp only [D.nds,D.nd,pW,Bool.and_true]
theorem lA:∀ rows:List Rw,D.dps (rows.map rwD)≤60
 | []=>Nat.zero_le _
 | r :: rs=>by
  rw [List.map_cons];unfold D.dps
  refine Nat.max_le.mpr ⟨?_,lA rs⟩
  have:=sr r.2.1
  show D.dps [.str _,.tup (r.2.1.map tmD),.int _] + 1≤60
  simp only [D.dps,D.dp]
  omega
theorem qc {nm:List Str} {n:Str}:∀ {l:List (Rw×Int)},(∀ p∈l,∀ t∈p.1.2.1,t.1∈nm)→cfs l n≠0→n∈nm
 | [],_,h=>absurd rfl h
 | p :: r,hp,h=>by
  refine Classical.byContradiction fun z=>?_
  have h1:cfs r n=0:=Classical.byContradiction fun y=>z (qc (fun p h=>hp p (List.mem_cons_of_mem _ h)) y)
  have h2:cf p.1.2.1 n=0:=iy fun hm=>by
   obtain ⟨t,ht,e⟩:=List.mem_map.mp hm
   exact z (e ▸ hp p (List.mem_cons_self ..) t ht)
  refine h ?_
  show p.2 * cf p.1.2.1 n + cfs r n=0
  rw [h1,h2,Int.mul_zero,Int.zero_add]
structure RwOk (nm:List Str) (B:Nat) (r:Rw):Prop where
 sub:∀ t∈r.2.1,t.1∈nm
 bw:∀ t∈r.2.1,Builtin.Int.intBits t.2≤B
 bb:Builtin.Int.intBits r.2.2≤B
structure Pt (ks:List Str) (ps:List (Int×Int)) (X:Nat):Prop where
 len:ps.length=ks.length
 low:∀ p∈ps,Low p.1 p.2
 b1:∀ p∈ps,Builtin.Int.intBits p.1≤X
 b2:∀ p∈ps,Builtin.Int.intBits p.2≤X
theorem Pt.at {ks:List Str} {ps:List (Int×Int)} {X:Nat} {n:Str} (hp:Pt ks ps X) (h:n∈ks):dAt ks ps n=some (ptOf ks ps n)∧ptOf ks ps n∈ps:=by
 have e:=jD (ks:=ks) (ds:=ps) (x:=n) hp.len.symm
 rw [decide_eq_true h] at e
 cases q:dAt ks ps n with
 | none=>rw [q] at e;cases e
 | some p =>
  have:ptOf ks ps n=p:=by unfold ptOf;rw [q];rfl
  rw [this]
  exact⟨rfl,rM q⟩
theorem Pt.D {ks:List Str} {ps:List (Int×Int)} {X:Nat} {n:Str} (hp:Pt ks ps X) (h:n∈ks):dAt ks (ps.map frD) n=some (.tup [.int (pT ks ps n),.int (pB ks ps n)]):=by
 rw [pP,(hp.at h).1];rfl
theorem Pt.Low {ks:List Str} {ps:List (Int×Int)} {X:Nat} {n:Str} (hp:Pt ks ps X) (h:n∈ks):Low (pT ks ps n) (pB ks ps n):=hp.low _ (hp.at h).2
theorem Pt.pos {ks:List Str} {ps:List (Int×Int)} {X:Nat} {n:Str} (hp:Pt ks ps X) (h:n∈ks):0 < pB ks ps n:=(hp.low _ (hp.at h).2).pos
theorem Pt.Bb {ks:List Str} {ps:List (Int×Int)} {X:Nat} {n:Str} (hp:Pt ks ps X) (h:n∈ks):Builtin.Int.intBits (pB ks ps n)≤X:=hp.b2 _ (hp.at h).2
theorem Pt.Tb {ks:List Str} {ps:List (Int×Int)} {X:Nat} {n:Str} (hp:Pt ks ps X) (h:n∈ks):Builtin.Int.intBits (pT ks ps n)≤X:=hp.b1 _ (hp.at h).2
theorem Pt.mono {ks:List Str} {ps:List (Int×Int)} {X Y:Nat} (hp:Pt ks ps X) (h:X≤Y):Pt ks ps Y:=⟨hp.len,hp.low,fun p hq=>Nat.le_trans (hp.b1 p hq) h,fun p hq=>Nat.le_trans (hp.b2 p hq) h⟩
end Mf
namespace DL
open PySem PySem.Spec PyProof.Rows L2
section
variable {X:Cx} {pos:Pos} {a b e:Expr} {es:List Expr} {ta tb:TDE} {t:TDA}
theorem ol:cc X (.type "dict") (fun xs H Q=>∃ a kvs,xs=[.ref a]∧Rd H a (.dK kvs)∧∀ l,H l=none→Q (.ref l) (upd H l (.dK kvs))):=by
 intro pins s σ H xs us Q I rv h
 obtain ⟨a,kvs,rfl,e,k⟩:=h
 obtain ⟨u,rfl,ru⟩:=ge rv
 cases ru
 obtain ⟨hz,lo,va,ra,da⟩:=fP I.hok e
 have fr:H s.heap.objs.size=none:=I.hok.fresh (Nat.le_refl _)
 refine kt_call_dict lo da (by rw [← ra.length];exact hz) fun h' dd sb=>?_
 have kp:∀ b o,s.heap.get? b=some o→h'.get? b=some o:=fun b o e=>sb.extBut b o (Nat.ne_of_lt (Heap.lt_size e)) (Heap.get?_push_of_some _ e)
 have lo2:(s.heap.objs.size == sysModules)=false:=beq_eq_false_iff_ne.mpr (Nat.ne_of_gt I.big)
 exact⟨.ref _,_,I.laid (t':=s.toks) kp (Nat.le_refl _) (qZ hz lo2 ra dd),rfl,k _ fr⟩
def ve (i:Nat) (te:TDE):TDS:=fun R δ=>te δ (wd fun d δ1=>∃ ks ds,(d=.dct ks ds∨d=.fd ks ds)∧∀ a,R.nx (δ1.set i (.own a (.dct ks ds))))
theorem mT (i:Nat) {y:Str} {p pos' pos2:Pos} (hN:X.N.Nodup) (hg:Gl X "dict") (hm:X.mg "dict"=none) (he:DE X e ta) (hi:X.N[i]?=some y:=by rfl) (hx:Loc X.env.scope y:=by walk_at "v2")
  (h2:starEach [e] X.env=(false,eval e X.env) :: starEach [] X.env:=by rfl) (hpl:(backTo pos2 (starEach [] X.env)).any (·.1)=false:=by rfl)
  (hs:swapsWith (.Call (.Name "dict" p) [e] [] pos2) (some (.Name y pos')) pos.line X.env=pure false:=by rfl) (hf:X.fn y=true∨X.env.scope.names.lookup y=some .local :=by walk_at "v1") :
  DS X (.Assign [.Name y pos'] (.Call (.Name "dict" p) [e] [] pos2) pos) (ve i ta) :=
 PS.imp (iM hN hi hx (e7 ol hg hm uU (ba he dy h2) (by decide) (by decide) h2 hpl) hs hf) fun E σ H ⟨G,δ,P,R,s,h,k,_⟩=>up.mk s h fun d δ1 ⟨ks,ds,ed,r⟩ v H1 ⟨A,q⟩=>by
  have r0:∃ a0 vs,v=.ref a0∧Rd H1 a0 (.dK (aP ks vs))∧ks.length=ds.length∧Reps X.K (fun b=>G.M0 b∨A b) H1 ds vs:=by
   rcases ed with ed | ed
   ·subst ed
    have r0:=q.pnd (.dct ks ds,v) (by simp)
    unfold Rep at r0
    obtain ⟨a0,vs,e,n0,e0,l0,rs⟩:=r0
    exact⟨a0,vs,e,.inl e0,l0,rs⟩
   ·subst ed
    have r0:=q.pnd (.fd ks ds,v) (by simp)
    unfold Rep at r0
    obtain ⟨a0,vs,o,e,e0,l0,rs⟩:=r0
    exact⟨a0,vs,e,.inr ⟨o,e0⟩,l0,rs⟩
  obtain ⟨a0,vs,rfl,e0,l0,rs⟩:=r0
  refine⟨a0,_,rfl,e0,fun l hl=>?_⟩
  have sm:=aD hl (.dK (aP ks vs))
  refine k _ (r l) _ _ ⟨_,q.claim (P':=P) hl sm ⟨vs,aq,l0,Reps.kp (Kp.of_same sm) _ _ (Reps.more (fun b z=>?_) _ _ rs)⟩ fun q hq=>List.mem_cons_of_mem _ hq⟩
  rcases z with z | z
  ·exact .inl z
  ·exact .inr (by rw [z];exact hl)
def dSlO (i j:Nat) (tl th:TDO):TDS:=fun R δ=>∃ a ds,δ[j]?=some (.own a (.lst ds))∧tl δ fun l δ1=>th δ1 fun u δ2=>∃ ds,δ2[j]?=some (.own a (.lst ds))∧∀ c,R.nx (δ2.set i (.own c (.lst (cut ds l u))))
theorem yl (i j:Nat) {x y:Str} {p p2 pos' pos2:Pos} {lo up:Option Expr} {tl th:TDO} (hN:X.N.Nodup) (hl:DO X lo tl) (hu:DO X up th) (hi:X.N[i]?=some x:=by rfl) (hj:X.N[j]?=some y:=by rfl) (hx:Loc X.env.scope x:=by walk_at "v2")
  (hv:Vis X.env.scope y:=by walk_at "v3") (hd:(y == ("__debug__":Str))=false:=by decide) (hcd:(y == ("__classdict__":Str))=false:=by decide)
  (hs:swapsWith (.Subscript (.Name y p) (.Slice lo up none p2) pos2) (some (.Name x pos')) pos.line X.env=pure false:=by rfl) (hf:X.fn x=true∨X.env.scope.names.lookup x=some .local :=by walk_at "v1") :
  DS X (.Assign [.Name x pos'] (.Subscript (.Name y p) (.Slice lo up none p2) pos2) pos) (dSlO i j tl th) :=
 PS.imp (iM hN hi hx (m5 qC (cE hj hv hd hcd) hl hu) hs hf) fun E σ H ⟨G,δ,P,R,s,⟨a,ds0,e,h⟩,k,_⟩=>⟨.ref a,s.own e,G,δ,P,_,s,h,fun l δ1 h1 H1 s1=>⟨G,δ1,P,_,s1,h1,fun u δ2 ⟨ds,hi,r⟩ H2 ⟨A,q⟩=>by
  obtain ⟨_,aa,vs,hvs,rs⟩:=cA q hi
  refine⟨a,vs,rfl,SqL.of hvs,fun p hp=>?_⟩
  have sm:=aD hp (.lst (cutV vs l u))
  refine k _ (r p) _ _ ⟨_,q.claim (P':=P) hp sm ⟨_,aq,Reps.kp (Kp.of_same sm) _ _ (Reps.more (fun b z=>?_) _ _ (Reps.cut l u rs))⟩ fun q hq=>hq⟩
  rcases z with z | z
  ·exact .inl z
  ·exact .inr (by rw [z];exact hp)⟩⟩
theorem o8 {x:Str} {acc:Array Value} (h:ItemsOf (SignAt x) acc x.cps.size):Vals (x.cps.toList.map fun c=>V.str ⟨#[c]⟩) acc.toList:=by
 obtain ⟨h1,h2⟩:=h
 have:∀ (cs:List Nat) (vs:List Value),vs.length=cs.length→(∀ (j:Nat) v,vs[j]?=some v→∃ (c:Nat) (u:Tok),cs[j]?=some c∧v=Value.str ⟨#[c]⟩ u)→Vals (cs.map fun c=>V.str ⟨#[c]⟩) vs:=fun cs=>by
  induction cs with
  | nil=>intro vs hl _;rw [List.eq_nil_of_length_eq_zero hl];exact .nil
  | cons c cs ih =>
   intro vs hl hh
   cases vs with
   | nil=>cases hl
   | cons v vs =>
    obtain ⟨c',u,e1,e2⟩:=hh 0 v rfl
    cases e1
    exact .cons ⟨u,e2⟩ (ih vs (by simpa using hl) fun j v hv=>hh (j + 1) v hv)
 refine this _ _ (by rw [Array.length_toList,Array.length_toList];exact h1) fun j v hv=>?_
 obtain ⟨c,u,e1,e2⟩:=h2 j v (by rw [← Array.getElem?_toList];exact hv)
 exact⟨c,u,by rw [Array.getElem?_toList];exact e1,e2⟩
theorem o6 (hc:X.calm=true):cc X (.type "list") (fun xs H Q=>∃ x,xs=[.str x]∧x.cps.size≤9000∧∀ l,H l=none→Q (.ref l) (upd H l (.lst (x.cps.toList.map fun c=>V.str ⟨#[c]⟩)))):=by
 intro pins s σ H xs us Q I rv h
 obtain ⟨x,rfl,hz,k⟩:=h
 obtain ⟨u,rfl,ru⟩:=ge rv
 obtain ⟨t,rfl⟩:=ru
 have fr:H s.heap.objs.size=none:=I.hok.fresh (Nat.le_refl _)
 refine call_list_str (I.ok.hd hc) x t (fun h' tk acc' c' kp e it=>?_) (ej hz)
 exact⟨.ref _,_,I.laid (t':=tk) kp (Nat.le_refl _) (show bH X.prog X.w _ h' _ (.lst (x.cps.toList.map fun c=>V.str ⟨#[c]⟩)) from ⟨by rw [List.length_map,Array.length_toList];exact ej hz,acc'.toList,c',o8 it,e⟩),rfl,k _ fr⟩
def uS (i:Nat) (te:TDE):TDS:=fun R δ=>te δ (wd fun d δ1=>∃ x,d=.str x∧x.cps.size≤9000∧∀ a,R.nx (δ1.set i (.own a (.lst (sP x)))))
theorem tf (i:Nat) {y:Str} {p pos' pos2:Pos} (hN:X.N.Nodup) (hc:X.calm=true) (hg:Gl X "list") (hm:X.mg "list"=none) (he:DE X e ta) (hi:X.N[i]?=some y:=by rfl) (hx:Loc X.env.scope y:=by walk_at "v2")
  (h2:starEach [e] X.env=(false,eval e X.env) :: starEach [] X.env:=by rfl) (hpl:(backTo pos2 (starEach [] X.env)).any (·.1)=false:=by rfl)
  (hs:swapsWith (.Call (.Name "list" p) [e] [] pos2) (some (.Name y pos')) pos.line X.env=pure false:=by rfl) (hf:X.fn y=true∨X.env.scope.names.lookup y=some .local :=by walk_at "v1") :
  DS X (.Assign [.Name y pos'] (.Call (.Name "list" p) [e] [] pos2) pos) (uS i ta) :=
 PS.imp (iM hN hi hx (e7 (o6 hc) hg hm vi (ba he dy h2) (by decide) (by decide) h2 hpl) hs hf) fun E σ H ⟨G,δ,P,R,s,h,k,_⟩=>up.mk s h fun d δ1 ⟨x,ed,hz,r⟩ v H1 ⟨A,q⟩=>by
  subst ed
  have p2:v=.str x:=bu (q.pnd (.str x,v) (by simp))
  subst p2
  refine⟨x,rfl,hz,fun l hl=>?_⟩
  have sm:=aD hl (.lst (x.cps.toList.map fun c=>V.str ⟨#[c]⟩))
  refine k _ (r l) _ _ ⟨_,q.claim (P':=P) hl sm ⟨_,aq,?_⟩ fun q hq=>List.mem_cons_of_mem _ hq⟩
  have:∀ cs:List Nat,Reps X.K (fun b=>(G.M0 b∨A b)∨b=l) (upd H1 l (.lst (x.cps.toList.map fun c=>V.str ⟨#[c]⟩))) (cs.map fun c=>D.str ⟨#[c]⟩) (cs.map fun c=>V.str ⟨#[c]⟩):=fun cs=>by
   induction cs with
   | nil=>exact Reps.nil
   | cons c cs ih=>exact Reps.cons (by unfold Rep;rfl) ih
  exact this _
def uN (i:Nat) (te:TDE):TDE:=fun δ R=>∃ a ds,δ[i]?=some (.own a (.lst ds))∧te δ (wd fun z δ1=>∃ ds k y,δ1[i]?=some (.own a (.lst ds))∧z=.int (k:Nat)∧ds.length≤9000∧ds[k]?=some y∧R (.d y) (δ1.set i (.own a (.lst (ds.eraseIdx k)))))
theorem Reps.erase {K:PySem.W.Frag} {M:Addr→Prop} {H:Hp}:∀ (k:Nat) (ds:List D) (vs:List V),Reps K M H ds vs→Reps K M H (ds.eraseIdx k) (vs.eraseIdx k)
 | k,[],vs,r=>by
  unfold Reps at r
  subst r
  rw [List.eraseIdx_nil,List.eraseIdx_nil];exact Reps.nil
 | 0,d :: ds,vs,r=>by
  unfold Reps at r
  obtain ⟨v,r',rfl,_,q⟩:=r
  exact q
 | k + 1,d :: ds,vs,r=>by
  unfold Reps at r
  obtain ⟨v,r',rfl,p,q⟩:=r
  exact Reps.cons p (Reps.erase k ds r' q)
theorem qD (i:Nat) {y:Str} {p apos cpos:Pos} (he:DE X e ta) (hN:X.N[i]?=some y:=by rfl) (hv:Vis X.env.scope y:=by walk_at "v3")
  (hd:(y == ("__debug__":Str))=false:=by decide) (hcd:(y == ("__classdict__":Str))=false:=by decide)
  (hbase:attributeBase (.Name y p) "pop" X.env (eval (.Name y p) X.env)=eval (.Name y p) X.env:=by rfl)
  (hfew:((backTo cpos (starEach [e] X.env)).all (fun x=>!x.1) && (backToKw cpos (keywordEach [] X.env)).all (fun x=>x.1.isSome) && decide ([e].length + ([]:List Keyword).length + (if ([]:List Keyword).isEmpty then 0 else 1) < 30))=true:=by rfl)
  (hline:(apos.endLine == cpos.line)=true:=by rfl) (hs:starEach [e] X.env=(false,eval e X.env) :: starEach [] X.env:=by rfl) (hplain:(backTo cpos (starEach [] X.env)).any (·.1)=false:=by rfl) :
  DE X (.Call (.Attribute (.Name y p) "pop" apos) [e] [] cpos) (uN i ta) :=
 PE.imp (wU PySem.F.plainAttrs_list PySem.F.slot_list_pop PySem.F.type_list_pop sY (cE hN hv hd hcd) (ba he dy hs) hbase hfew hline hs hplain) fun σ H Q ⟨G,δ,P,R,s,⟨a,ds0,hi0,h⟩,k,_⟩=>by
  obtain ⟨A0,x0⟩:=id s
  obtain ⟨h0,_,vs0,hvs0,_⟩:=cA x0 hi0
  refine⟨.ref a,h0,.inl ⟨rfl,vs0,SqL.of hvs0⟩,up.mk s h fun z δ1 ⟨ds,j,y,hi,ez,hz,hy,r⟩ v H1 ⟨A,q⟩=>?_⟩
  subst ez
  obtain ⟨_,aa,vs,hvs,rs⟩:=cA q hi
  have p2:v=.int (j:Nat):=aO (q.pnd (.int (j:Nat),v) (by simp))
  subst p2
  obtain ⟨w,ew,rw'⟩:=Reps.get _ _ rs j y hy
  have hl:=Reps.length _ _ rs
  have hj:j < ds.length:=(List.getElem?_eq_some_iff.mp hy).1
  refine⟨a,vs,(j:Nat),j,w,rfl,rfl,hvs,by omega,by omega,by unfold seqIndex?;simp only [show ¬ ((j:Nat):Int) < 0 by omega,if_false];rw [if_pos (by simp only [Bool.and_eq_true,decide_eq_true_eq];omega)];rfl,ew,?_⟩
  have hk:∀ b o,b≠a→H1 b=some o→upd H1 a (.lst (vs.eraseIdx j)) b=some o:=fun b o n e=>by rw [aE n];exact e
  have kp:Kp (fun b=>G.M0 b∨A b) H1 (upd H1 a (.lst (vs.eraseIdx j))) :=
   ⟨fun b o e n=>hk b o (fun z=>n (.inr (by rw [z];exact aa))) e,fun b xs e=>hk b _ (fun z=>by rw [z,hvs] at e;cases e) e,fun b o u e=>hk b _ (fun z=>by rw [z,hvs] at e;cases e) e⟩
  have q1:=(q.change (d':=.lst (ds.eraseIdx j)) hi hk ⟨_,aq,Reps.kp kp _ _ (Reps.erase j _ _ rs)⟩)
  exact k _ _ r _ _ ⟨A,(q1.sub (P':=P) fun p hp=>List.mem_cons_of_mem _ hp).push (Rep.kp kp _ _ rw')⟩
def Bd:V→List V→Hp→VK→Prop:=fun x vs H Q=>∃ l xs y,x=.ref l∧vs=[.int 0,y]∧H l=some (.lst xs)∧xs.length < sizeLine∧Q .non (upd H l (.lst (y :: xs)))
theorem wI:MtM X "list.insert" Bd:=by
 intro pins s σ H x vs v us Q I rx rv h
 obtain ⟨l,xs,y,rfl,rfl,hH,hz,q⟩:=h
 cases rx
 cases rv with
 | cons r0 rv =>
  obtain ⟨t,rfl⟩:=r0
  obtain ⟨u,rfl,ru⟩:=ge rv
  obtain ⟨z,its,n,r,hl,e⟩:=I.lstM hH
  refine call_meets PySem.F.slot_list_insert ⟨_,e,rfl⟩ PySem.F.entry_list_insert (PySem.F.args_list_insert_3 _ _ _) (PySem.AutoSeq1.list_insert_list_int_val_1 l its.toArray n 0 t u (by decide) (by rw [List.size_toArray];omega)) ⟨e,?_⟩
  refine⟨.non,_,I.lset (its':=u :: its) hH e ?_ (.cons ru r) ?_,rfl,q⟩
  ·apply Array.toList_inj.mp
   simp
  ·rw [List.length_cons];omega
def zk (i:Nat) (te:TDE):TDS:=fun R δ=>∃ a ds,δ[i]?=some (.own a (.lst ds))∧te δ (wd fun x δ1=>∃ ds,δ1[i]?=some (.own a (.lst ds))∧ds.length < 9000∧R.nx (δ1.set i (.own a (.lst (x :: ds)))))
theorem tW (i:Nat) {y:Str} {j0} {p p0 apos cpos:Pos} (he:DE X e ta) (hN:X.N[i]?=some y:=by rfl) (hv:Vis X.env.scope y:=by walk_at "v3")
  (hd:(y == ("__debug__":Str))=false:=by decide) (hcd:(y == ("__classdict__":Str))=false:=by decide)
  (hbase:attributeBase (.Name y p) "insert" X.env (eval (.Name y p) X.env)=eval (.Name y p) X.env:=by rfl)
  (hfew:((backTo cpos (starEach [.Constant (.int 0) j0 p0,e] X.env)).all (fun x=>!x.1) && (backToKw cpos (keywordEach [] X.env)).all (fun x=>x.1.isSome) && decide ([Expr.Constant (.int 0) j0 p0,e].length + ([]:List Keyword).length + (if ([]:List Keyword).isEmpty then 0 else 1) < 30))=true:=by rfl)
  (hline:(apos.endLine == cpos.line)=true:=by rfl) (hs:starEach [.Constant (.int 0) j0 p0,e] X.env=(false,eval (.Constant (.int 0) j0 p0) X.env) :: starEach [e] X.env:=by rfl) (hs2:starEach [e] X.env=(false,eval e X.env) :: starEach [] X.env:=by rfl) (hplain:(backTo cpos (starEach [e] X.env)).any (·.1)=false:=by rfl)
  (hsw:swapsWith (.Call (.Attribute (.Name y p) "insert" apos) [.Constant (.int 0) j0 p0,e] [] cpos) none pos.line X.env=pure false:=by rfl) :
  DS X (.Expr (.Call (.Attribute (.Name y p) "insert" apos) [.Constant (.int 0) j0 p0,e] [] cpos) pos) (zk i ta) :=
 PS.imp (jt (wU PySem.F.plainAttrs_list PySem.F.slot_list_insert PySem.F.type_list_insert wI (cE hN hv hd hcd) (ba u6 (ba he dy hs2) hs) hbase hfew hline hs hplain) hsw) fun E σ H ⟨G,δ,P,R,s,⟨a,ds0,hi0,h⟩,k,_⟩=>by
  obtain ⟨A0,x0⟩:=id s
  obtain ⟨h0,_,vs0,hvs0,_⟩:=cA x0 hi0
  refine⟨.ref a,h0,.inl ⟨rfl,vs0,SqL.of hvs0⟩,up.mk s h fun x δ1 ⟨ds,hi,hz,r⟩ v H1 ⟨A,q⟩=>?_⟩
  obtain ⟨_,aa,vs,hvs,rs⟩:=cA q hi
  refine⟨a,vs,v,rfl,rfl,hvs,by rw [← Reps.length _ _ rs];exact gU (Nat.le_of_lt hz),k _ r _ _ ⟨A,(q.change (d':=.lst (x :: ds)) hi (fun b o n e=>by rw [aE n];exact e) ⟨v :: vs,aq,?_⟩).sub (P':=P) fun q hq=>List.mem_cons_of_mem _ hq⟩⟩
  have kp:Kp (fun b=>G.M0 b∨A b) H1 (upd H1 a (.lst (v :: vs))):=by
   have hk:∀ b o,b≠a→H1 b=some o→upd H1 a (.lst (v :: vs)) b=some o:=fun b o n e=>by rw [aE n];exact e
   exact⟨fun b o e n=>hk b o (fun z=>n (.inr (by rw [z];exact aa))) e,fun b xs e=>hk b _ (fun z=>by rw [z,hvs] at e;cases e) e,fun b o u e=>hk b _ (fun z=>by rw [z,hvs] at e;cases e) e⟩
  exact Reps.kp kp _ _ (Reps.cons (q.pnd (x,v) (by simp)) rs)
structure GEnd (K:PySem.W.Frag) (mg:Str→Option Value) (x:Str):Prop where
 ex:∃ a o n,mg x=some (.ref a)∧K.lookup a=some o∧o.cls=.type "tuple"∧o.data=.seq #[.none,.bool false] n
theorem qd {x:Str} (hg:Gl X x) (h:GEnd X.K X.mg x) (hd:(x == ("__debug__":Str))=false:=by decide):DE X (.Name x pos) (dC (.tup [.non,.bl false])):=by
 obtain ⟨a,o,n,e,h1,h2,h3⟩:=h.ex
 refine PE.imp (wH (v:=.ref a) hg e rfl hd) fun σ H Q ⟨G,δ,P,R,⟨A,s⟩,h,k,_⟩=>k _ δ h _ H ⟨A,s.push ?_⟩
 unfold Rep
 exact⟨a,[.non,.bl false],rfl,.inr ⟨o,_,n,h1,h2,h3,by show 2≤sizeLine;decide,.cons rfl (.cons rfl .nil)⟩,Reps.cons (by unfold Rep;rfl) (Reps.one (by unfold Rep;rfl))⟩
end
end DL
namespace DL
open PySem PySem.Spec PyProof.Rows L2
def Ite (K:PySem.W.Frag) (a:Addr):It :=
  ⟨fun i H=>∃ xs x,SqL K H a xs∧xs[i]?=some x,
   fun i H v H'=>∃ T x,H T=none∧H'=upd H T (.tup [.int (i:Nat),x])∧v=.ref T∧∀ xs,SqL K H a xs→xs[i]?=some x,
   fun i H=>∃ xs,SqL K H a xs∧xs.length≤i⟩
def EI (h:Heap) (e it a:Addr) (m:Nat):Prop:=(∃ old,IsEnum h e it ((m:Nat):Int) old)∧h.IsListIter it a m
theorem rc {P:Program} {w:World} {K:PySem.W.Frag} {elts:List Expr} {x1} {pos:Pos} {e it a:Addr} (hne:e≠it):Turn P w K (.Tuple elts x1 pos) (Ite K a) [e,it] e (fun m h=>EI h e it a m) where
 mem:=by simp
 obj:=fun m h Z c hc=>by
  obtain ⟨⟨old,z⟩,zi⟩:=Z
  simp only [List.mem_cons,List.not_mem_nil,or_false] at hc
  rcases hc with rfl | rfl
  ·exact⟨_,z,fun v=>nofun⟩
  ·obtain ⟨q,x,_,d⟩:=zi
   exact⟨q,x,fun v=>by rw [d];nofun⟩
 keep:=fun m h h' Z kk=>by
  obtain ⟨⟨old,z⟩,zi⟩:=Z
  exact⟨⟨old,kk _ (by simp) _ z⟩,zi.at fun o x=>kk _ (by simp) o x⟩
 item:=by
  intro X hP hw hK hc m pins s σ H E I hf Z hg
  subst hP hw hK
  obtain ⟨xs,x,h1,hx⟩:=hg
  obtain ⟨⟨old,z⟩,zi⟩:=Z
  obtain ⟨is,r1,p1,_⟩:=I.list h1
  obtain ⟨u,hu,ru⟩:=r1.get hx
  refine wpAny_pyNext_enum_item z zi p1.isList (by simpa using hu) hne fun h' e1 i1 t1 n1 kk=>⟨_,rfl,?_⟩
  refine wpAny_letOwnedTupleGo_enum (s:={ s with heap:=h',toks:=s.toks + 1 }) e1 fun h2 e2 s2=>?_
  have s2:Heap.SameBut e h' h2:=s2
  have hfr:H s.heap.objs.size=none:=I.hok.fresh (Nat.le_refl _)
  have I1:Inv X pins σ (upd H s.heap.objs.size (.tup [.int (m:Nat),x])) { s with heap:=s.heap.push { cls:=.type "tuple",data:=.seq #[.int (m:Nat) s.toks,u] },toks:=s.toks + 1 }:=I.laid (t':=s.toks + 1) (fun b u e=>Heap.get?_push_of_some _ e) (Nat.le_refl _) ⟨by show 2≤sizeLine;decide,[.int (m:Nat) s.toks,u],.cons ⟨_,rfl⟩ (.cons ru .nil),⟨_,Heap.get?_push_size _ rfl,rfl,_,rfl⟩⟩
  have ne:∀ {c o},s.heap.get? c=some o→c≠s.heap.objs.size:=fun e=>Nat.ne_of_lt (Heap.lt_size e)
  have le:e≠s.heap.objs.size:=ne z
  have li:it≠s.heap.objs.size:=by obtain ⟨q,y,_⟩:=zi;exact ne y
  have fr:∀ c∈[e,it],upd H s.heap.objs.size (.tup [.int (m:Nat),x]) c=none:=fun c hc'=>by
   rw [aE (by simp only [List.mem_cons,List.not_mem_nil,or_false] at hc';rcases hc' with rfl | rfl;exact le;exact li)];exact (hf c hc').1
  have I2:Inv X pins σ (upd H s.heap.objs.size (.tup [.int (m:Nat),x])) { s with heap:=h2,toks:=s.toks + 1 }:=jJ (s:={ s with heap:=s.heap.push { cls:=.type "tuple",data:=.seq #[.int (m:Nat) s.toks,u] },toks:=s.toks + 1 }) (t':=s.toks + 1) (fp:=[e,it]) I1 (fun c q hc ec=>?_) fun c hc=>⟨fr c hc,(hf c hc).2⟩
  ·exact⟨.ref s.heap.objs.size,_,I2,rfl,⟨_,x,hfr,rfl,rfl,fun zs hz=>by rw [I.list_inj hz h1];exact hx⟩,⟨⟨_,e2⟩,i1.at fun o y=>s2.extBut _ _ (Ne.symm hne) y⟩,fr⟩
  ·have n1:c≠e:=fun z=>hc (by rw [z];simp)
   have n2:c≠it:=fun z=>hc (by rw [z];simp)
   rcases Heap.get?_push_cases ec with ⟨rfl,rfl⟩ | ec
   ·exact s2.extBut _ _ n1 t1
   ·exact s2.extBut _ _ n1 (kk c q n1 n2 ec)
 done:=by
  intro X hP hw hK hc m pins s σ H E I hf Z hg
  subst hP hw hK
  obtain ⟨xs,h1,hl⟩:=hg
  obtain ⟨⟨old,z⟩,zi⟩:=Z
  obtain ⟨is,r1,p1,_⟩:=I.list h1
  have l1:=r1.length
  refine wpAny_pyNext_enum_end (I.ok.hd hc) z zi p1.isList (by simp;omega) fun h' kk=>⟨rfl,jJ (t':=s.toks) (fp:=[e,it]) I (fun c q hc e=>kk c q (fun z=>hc (by rw [z];simp)) e) hf⟩
 self:=fun _ _ _ _ _ Z h=>wpAny_pyIter_enum Z.1.choose_spec h
section
variable {X:Cx}
def BA (K:PySem.W.Frag) (ta:TA):TI:=fun σ H R=>ta σ H fun vs H1=>∃ a,vs=[.ref a]∧(∃ xs,SqL K H1 a xs)∧R (Ite K a) H1
theorem xk {a:Expr} {ta:TA} {p pos:Pos} {elts:List Expr} {x1} {pos':Pos} (hg:Gl X "enumerate") (hm:X.mg "enumerate"=none) (ha:PA X [a] ta) (hs:starEach [a] X.env=[(false,eval a X.env)]:=by rfl) :
  PI X (.Tuple elts x1 pos') (.Call (.Name "enumerate" p) [a] [] pos) (BA X.K ta):=by
 intro pins s σ H R I h
 refine Call_ (iw I hg hm boot_enumerate (PyProof.Rows.callWith_type1 (thn (ha pos pins s σ H _ I h) fun us s1 ⟨vs,H1,I1,r1,q1⟩=>?_) (by rw [hs];rfl) rfl))
 obtain ⟨c,e,⟨xs,hx⟩,q⟩:=q1
 subst e
 obtain ⟨u,rfl,ru⟩:=ge r1
 cases ru
 obtain ⟨is,_,p1,_⟩:=I1.list hx
 refine call_enumerate_list p1.isList fun h' e1 i1 n1 up=>wpAny_pyIter_enum (s:={ s1 with heap:=h' }) e1 ?_
 have n1:s1.heap.objs.size + 1≠s1.heap.objs.size:=fun z=>by have z:(_:Nat)=_:=z;omega
 refine⟨_,[s1.heap.objs.size + 1,s1.heap.objs.size],_,_,H1,rfl,I1.kept (t':=s1.toks) up,rc n1,⟨⟨_,e1⟩,i1⟩,fun b hb=>?_,q⟩
 have hb:s1.heap.objs.size≤b:=by
  simp only [List.mem_cons,List.not_mem_nil,or_false] at hb
  rcases hb with rfl | rfl
  ·exact Nat.le_add_right ..
  ·exact Nat.le_refl _
 exact I1.fpOk hb (I1.hok.fresh hb)
def enD (xs:List D):List D:=xs.mapIdx fun i x=>.tup [.int (i:Nat),x]
def vg (t:TDA):TDC:=fun δ R=>t δ fun ds δ1=>∃ xs,ds=[.lst xs]∧R (enD xs) δ1
theorem xC {a:Expr} {ta:TDA} {p pos:Pos} {elts:List Expr} {x1} {pos':Pos} (hg:Gl X "enumerate") (hm:X.mg "enumerate"=none) (ha:DA X [a] ta) (hs:starEach [a] X.env=[(false,eval a X.env)]:=by rfl) :
  CI X (.Tuple elts x1 pos') (.Call (.Name "enumerate" p) [a] [] pos) (vg ta) :=
 ⟨_,xk hg hm ha hs,fun G δ P σ H R Q s hs kk=>⟨G,δ,P,_,s,hs,fun ds δ1 h1 vs H1 hl s1=>by
  obtain ⟨xs,e,r⟩:=h1
  subst e
  match vs,hl with
  | [v],_ =>
   have s2:S X.K G δ1 ((.lst xs,v) :: P) σ H1:=s1
   have at1:∀ A δ σ H,Sx X.K G A δ ((.lst xs,v) :: P) σ H→∃ a vs,v=.ref a∧SqL X.K H a vs∧Reps X.K (fun b=>G.M0 b∨A b) H xs vs:=fun A δ σ H x=>by
    have q:=x.pnd (.lst xs,v) (by simp)
    unfold Rep at q
    obtain ⟨a,vs,e,_,l,r⟩:=q
    exact⟨a,vs,e,SqL.of l,r⟩
   obtain ⟨A1,x1⟩:=id s2
   obtain ⟨a,vs0,rfl,l0,_⟩:=at1 _ _ _ _ x1
   have hlen:(enD xs).length=xs.length:=by unfold enD;rw [List.length_mapIdx]
   refine⟨a,rfl,⟨vs0,l0⟩,kk _ δ1 r _ _ H1 (fun q hq=>by simp [hq]) s2 (fun A δ σ i H x hi=>?_) (fun A δ σ H x=>?_) fun A δ σ i y H H2 x hi hy=>?_⟩
   ·obtain ⟨_,vs,e,l,r⟩:=at1 _ _ _ _ x
    cases e
    obtain ⟨v',hv,_⟩:=Reps.get _ _ r i (xs[i]'(by omega)) (by simp)
    exact⟨vs,v',l,hv⟩
   ·obtain ⟨_,vs,e,l,r⟩:=at1 _ _ _ _ x
    cases e
    have:=Reps.length _ _ r
    exact⟨vs,l,by omega⟩
   ·obtain ⟨_,vs,e,l,r⟩:=at1 _ _ _ _ x
    cases e
    obtain ⟨T,x',hT,rfl,rfl,hx⟩:=hy
    have hi1:i < xs.length:=by omega
    obtain ⟨v',hv,rv⟩:=Reps.get _ _ r i xs[i] (by simp [hi1])
    have e1:=hx vs l
    rw [hv] at e1
    have e1:=Option.some.inj e1
    rw [e1] at rv
    have sm:Same H (upd H T (.tup [.int (i:Nat),x'])):=aD hT _
    refine⟨sm,.tup [.int (i:Nat),xs[i]],?_,?_⟩
    ·unfold enD
     rw [List.getElem?_mapIdx,List.getElem?_eq_getElem hi1];rfl
    ·unfold Rep
     exact⟨T,[.int (i:Nat),x'],rfl,.inl (.inl aq),Reps.cons (by unfold Rep;rfl) (Reps.one (Rep.kp (Kp.of_same sm) _ _ rv))⟩⟩⟩
end
def Itv (K:PySem.W.Frag) (a:Addr) (n:Nat):It :=
  ⟨fun i H=>i < n∧∃ xs x,SqL K H a xs∧xs.length=n∧xs[n - 1 - i]?=some x,
   fun i H v H'=>H'=H∧∀ xs,SqL K H a xs→xs[n - 1 - i]?=some v,
   fun i _=>i=n⟩
theorem uq {P:Program} {w:World} {K:PySem.W.Frag} {tg:Expr} {a it:Addr} {n:Nat}:Turn P w K tg (Itv K a n) [it] it (fun i h=>h.IsRevIter it a ((n:Int) - 1 - (i:Nat))) where
 mem:=by simp
 obj:=fun i h st b hb=>by
  have e:b=it:=by simpa using hb
  subst e
  obtain ⟨o,ho,_,d⟩:=st
  exact⟨o,ho,fun v=>by rw [d];nofun⟩
 keep:=fun i h h' st k=>st.at fun o e=>k it (by simp) o e
 item:=by
  intro X hP hw hK hc i pins s σ H E I hf st hg
  subst hP hw hK
  obtain ⟨f0,f1,f2,f3,f4,f5⟩:=hf it (by simp)
  obtain ⟨hi,xs,x,h1,hn,hx⟩:=hg
  obtain ⟨is,r1,p1,_⟩:=I.list h1
  obtain ⟨u,hu,ru⟩:=r1.get hx
  have e:(n:Int) - 1 - (i:Nat)=((n - 1 - i:Nat):Int):=by omega
  rw [e] at st
  refine wpAny_pyNext_rev_item st p1.isList (by simpa using hu) fun h' st' sb=>⟨_,rfl,?_⟩
  have e2:((n - 1 - i:Nat):Int) - 1=(n:Int) - 1 - ((i + 1:Nat):Int):=by omega
  rw [e2] at st'
  obtain ⟨o,ho,hoc,hod⟩:=id st'
  have I1:Inv X pins σ H { s with heap:=h' }:=I.turned (t':=s.toks) (fun b o hb e=>sb.extBut b o hb e) f0 f1 f3 f4 f5
  exact rC (s:={ s with heap:=h' }) (n:="list_reverseiterator") ho hoc hod (by decide) ⟨x,H,I1,ru,⟨rfl,fun zs hz=>by rw [I.list_inj hz h1];exact hx⟩,st',fun b hb=>(hf b hb).1⟩
 done:=by
  intro X hP hw hK hc i pins s σ H E I hf st hg
  subst hP hw hK
  obtain ⟨f0,f1,f2,f3,f4,f5⟩:=hf it (by simp)
  have hg:i=n:=hg
  subst hg
  have e:(i:Int) - 1 - (i:Nat)=-1:=by omega
  rw [e] at st
  exact wpAny_pyNext_rev_end (I.ok.hd hc) st fun h' eb=>⟨rfl,I.turned (t':=s.toks) (fun b o hb e=>eb b o hb e) f0 f1 f3 f4 f5⟩
 self:=fun _ _ _ _ _ st h=>wpAny_pyIter_revIter st h
section
variable {X:Cx} {tg:Expr}
def iRev (K:PySem.W.Frag) (ta:TA):TI:=fun σ H R=>ta σ H fun vs H1=>∃ a xs,vs=[.ref a]∧SqL K H1 a xs∧R (Itv K a xs.length) H1
theorem yN {a:Expr} {ta:TA} {p pos:Pos} (hg:Gl X "reversed") (hm:X.mg "reversed"=none) (ha:PA X [a] ta) (hs:starEach [a] X.env=[(false,eval a X.env)]:=by rfl) :
  PI X tg (.Call (.Name "reversed" p) [a] [] pos) (iRev X.K ta):=by
 intro pins s σ H R I h
 refine Call_ (iw I hg hm boot_reversed (PyProof.Rows.callWith_type1 (thn (ha pos pins s σ H _ I h) fun us s1 ⟨vs,H1,I1,r1,q1⟩=>?_) (by rw [hs];rfl) rfl))
 obtain ⟨c,xs,e,hx,q⟩:=q1
 subst e
 obtain ⟨u,rfl,ru⟩:=ge r1
 cases ru
 obtain ⟨is,rv,p1,_⟩:=I1.list hx
 have hl:is.toArray.size=xs.length:=by rw [List.size_toArray,rv.length]
 refine call_reversed_list p1.isList ?_
 have st:(s1.heap.push (revObj c ((is.toArray.size:Int) - 1))).IsRevIter s1.heap.objs.size c ((xs.length:Int) - 1 - ((0:Nat):Int)):=⟨_,Heap.get?_push_size _ rfl,rfl,by show Data.fields #[.ref c,rawInt ((is.toArray.size:Int) - 1)]=_;rw [hl,show ((0:Nat):Int)=0 from rfl,Int.sub_zero]⟩
 refine wpAny_pyIter_revIter (s:={ s1 with heap:=s1.heap.push (revObj c ((is.toArray.size:Int) - 1)) }) st ?_
 refine⟨_,[s1.heap.objs.size],_,_,H1,rfl,I1.kept (t':=s1.toks) fun b o e=>Heap.get?_push_of_some _ e,uq,st,fun b hb=>?_,q⟩
 have e:b=s1.heap.objs.size:=by simpa using hb
 subst e
 exact I1.fpOk (Nat.le_refl _) (I1.hok.fresh (Nat.le_refl _))
def yk (t:TDA):TDC:=fun δ R=>t δ fun ds δ1=>∃ xs,ds=[.lst xs]∧R xs.reverse δ1
theorem yp {a:Expr} {ta:TDA} {p pos:Pos} (hg:Gl X "reversed") (hm:X.mg "reversed"=none) (ha:DA X [a] ta) (hs:starEach [a] X.env=[(false,eval a X.env)]:=by rfl) :
  CI X tg (.Call (.Name "reversed" p) [a] [] pos) (yk ta) :=
 ⟨_,yN hg hm ha hs,fun G δ P σ H R Q s hs kk=>⟨G,δ,P,_,s,hs,fun ds δ1 h1 vs H1 hl s1=>by
  obtain ⟨xs,e,r⟩:=h1
  subst e
  match vs,hl with
  | [v],_ =>
   have s2:S X.K G δ1 ((.lst xs,v) :: P) σ H1:=s1
   have at1:∀ A δ σ H,Sx X.K G A δ ((.lst xs,v) :: P) σ H→∃ a vs,v=.ref a∧SqL X.K H a vs∧Reps X.K (fun b=>G.M0 b∨A b) H xs vs:=fun A δ σ H x=>by
    have q:=x.pnd (.lst xs,v) (by simp)
    unfold Rep at q
    obtain ⟨a,vs,e,_,l,r⟩:=q
    exact⟨a,vs,e,SqL.of l,r⟩
   obtain ⟨A1,x1⟩:=id s2
   obtain ⟨a,vs0,rfl,l0,r0⟩:=at1 _ _ _ _ x1
   have hl0:=Reps.length _ _ r0
   refine⟨a,vs0,rfl,l0,kk _ δ1 r _ _ H1 (fun q hq=>by simp [hq]) s2 (fun A δ σ i H x hi=>?_) (fun A δ σ H x=>by show xs.reverse.length=vs0.length;rw [List.length_reverse,hl0]) fun A δ σ i y H H2 x hi hy=>?_⟩
   ·rw [List.length_reverse] at hi
    obtain ⟨_,vs,e,l,r⟩:=at1 _ _ _ _ x
    cases e
    have hl1:=Reps.length _ _ r
    obtain ⟨v',hv,_⟩:=Reps.get _ _ r (vs0.length - 1 - i) (xs[vs0.length - 1 - i]'(by omega)) (by simp)
    exact⟨by omega,vs,v',l,by omega,hv⟩
   ·rw [List.length_reverse] at hi
    obtain ⟨_,vs,e,l,r⟩:=at1 _ _ _ _ x
    cases e
    have hl1:=Reps.length _ _ r
    obtain ⟨e,hy⟩:=hy
    subst e
    obtain ⟨v',hv,rv⟩:=Reps.get _ _ r (vs0.length - 1 - i) (xs[vs0.length - 1 - i]'(by omega)) (by simp)
    have z:=hy vs l
    rw [hv] at z
    cases z
    refine⟨Same.refl _,_,?_,rv⟩
    have e9:xs.length - 1 - i=vs0.length - 1 - i:=by omega
    rw [List.getElem?_reverse (by omega),e9]
    exact List.getElem?_eq_getElem _⟩⟩
end
end DL
namespace DL
open PySem PySem.Spec PyProof.Rows L2
section
variable {P:Program} {w:World} {h h':Heap} {a:Addr} {es:Array (Int×Value)} {ep:Nat} {t:SetTable}
end
section
variable {prog:Program} {w:World} {A:Around} {E:Value→Shared→Prop} {s:Shared}
end
section
variable {prog:Program} {w:World} {A:Around} {R:Result→Shared→Prop} {I:Addr} {fp wr:List Addr} {G:Array GenState→Array GenState→Prop} {n:Nat} {P:Nat→Value→Prop} {St:Nat→Shared→Prop}
end
section
variable {prog:Program} {w:World} {A:Around} {E:Value→Shared→Prop} {s:Shared}
set_option maxRecDepth 100000 in
set_option maxHeartbeats 3200000 in
end
end DL
namespace DL
open PySem PySem.Spec PyProof.Rows L2
namespace FS
end FS
section
variable {prog:Program} {w:World} {A:Around} {E:Value→Shared→Prop} {s:Shared}
end
section
variable {prog:Program} {w:World} {A:Around} {E:Value→Shared→Prop} {s:Shared} {I S:Addr} {es:Array (Int×Value)} {ep:Nat} {t:SetTable} {F:Heap→Nat→Value→Prop} {vs:List Value}
set_option maxHeartbeats 1000000 in
set_option maxHeartbeats 1000000 in
end
end DL
namespace DL
open PySem PySem.Spec PyProof.Rows L2
section
variable {prog:Program} {w:World} {A:Around} {E:Value→Shared→Prop} {s:Shared} {I S:Addr} {es:Array (Int×Value)} {ep:Nat} {t:SetTable} {F:Heap→Nat→Value→Prop} {vs:List Value}
set_option maxHeartbeats 2000000 in
end
section
variable {X:Cx} {e:Expr} {p p2 pos pos2:Pos} {te:TE}
end
def dSS (te:TDE):TDE:=fun δ R=>te δ (wd fun d δ1=>∃ ss:List Str,d=.lst (ss.map D.str)∧ss.length < 64∧∀ ss',ss'.Nodup→(∀ y,y∈ss'↔y∈ss)→Srt ss'→R (.d (.lst (ss'.map D.str))) δ1)
end DL
namespace DL
open PySem PySem.Spec PyProof.Rows L2
section
variable {K:PySem.W.Frag} {G:Gf} {A:Addr→Prop} {δ:List Sl} {P:List (D×V)} {σ:L2.St} {H:Hp}
theorem Sx.freezeF {i:Nat} {a:Addr} {ks:List Str} {ds:List D} {o:Obj} (s:Sx K G A δ P σ H) (hi:δ[i]?=some (.own a (.dct ks ds))) (hp:¬ G.M0 a) :
  ∃ kvs,H a=some (.dK kvs)∧Sx K G (fun b=>A b∧b≠a) (δ.set i (.dat (.fd ks ds))) P σ (upd H a (.frz o (.dK kvs))):=by
 obtain ⟨si,ai,vs,hH,l,rs⟩:=s.own i a _ hi
 refine⟨_,hH,?_⟩
 have hk:∀ b u,b≠a→H b=some u→upd H a (.frz o (.dK (aP ks vs))) b=some u:=fun b u n e=>by rw [aE n];exact e
 have kp:Kp (fun b=>G.M0 b∨A b) H (upd H a (.frz o (.dK (aP ks vs)))) :=
  ⟨fun b u e n=>hk b u (fun z=>n (.inr (by rw [z];exact ai))) e,fun b xs e=>hk b _ (fun z=>by rw [z,hH] at e;cases e) e,fun b u v e=>hk b _ (fun z=>by rw [z,hH] at e;cases e) e⟩
 have hM:∀ b,(G.M0 b∨(A b∧b≠a))→(G.M0 b∨A b):=fun b h=>h.elim .inl fun z=>.inr z.1
 have dn:∀ d v,Rep K (fun b=>G.M0 b∨A b) H d v→Rep K (fun b=>G.M0 b∨(A b∧b≠a)) (upd H a (.frz o (.dK (aP ks vs)))) d v:=fun d v r=>Rep.more (fun b z=>.inl (hM b z)) _ _ (Rep.kp kp _ _ r)
 have stay:∀ b,H b≠none→upd H a (.frz o (.dK (aP ks vs))) b≠none:=fun b e=>by
  by_cases z:b=a
  ·rw [z,aq];exact fun q=>nomatch q
  ·rw [aE z];exact e
 refine⟨fun b u e n=>hk b u (fun z=>?_) (s.old b u e n),fun b e=>stay b (s.stay b e),s.m0,s.pm,fun b h=>s.new b h.1,fun b h=>stay b (s.thr b h.1),by rw [List.length_set,s.len],fun j x e=>?_,fun j b x e=>?_,fun j k b x y h1 h2=>?_,fun p hp=>dn _ _ (s.pnd p hp)⟩
 ·subst z
  exact (s.new b ai).elim (fun q=>by rw [q] at e;cases e) fun q=>n q
 ·rcases aU e with ⟨hij,z,_⟩ | ⟨hij,e⟩
  ·cases z;subst hij
   refine⟨.ref a,si,?_⟩
   unfold Rep
   exact⟨a,vs,o,rfl,aq,l,Reps.more (fun b z=>.inl (hM b z)) _ _ (Reps.kp kp _ _ rs)⟩
  ·obtain ⟨v,q,r⟩:=s.dat j x e
   exact⟨v,q,dn _ _ r⟩
 ·rcases aU e with ⟨_,z,_⟩ | ⟨hij,e9⟩
  ·cases z
  ·clear e
   obtain ⟨q,r,w⟩:=s.own j b x e9
   have hb:b≠a:=fun z=>by rw [z] at e9;exact hij (s.inj _ _ _ _ _ hi e9)
   exact⟨q,⟨r,hb⟩,bA.more (fun b z=>.inl (hM b z)) (bA.kp kp (by rw [aE hb]) w)⟩
 ·rcases aU h1 with ⟨_,z,_⟩ | ⟨_,e1⟩
  ·cases z
  ·rcases aU h2 with ⟨_,z,_⟩ | ⟨_,e2⟩
   ·cases z
   ·exact s.inj j k b x y e1 e2
end
def nS (i:Nat) (t:TDS):TDS:=fun R δ=>∃ a ks ds,δ[i]?=some (.own a (.dct ks ds))∧t R (δ.set i (.dat (.fd ks ds)))
theorem eZ {X:Cx} (i:Nat) {st:List Stmt} {u:TDS} (h:DSs X st u):DSs X st (nS i u):=by
 rintro pins s σ H D I ⟨G,δ,P,R,⟨A,x⟩,⟨a,ks,ds,e,hu⟩,k⟩
 have hp:¬ G.M0 a:=fun z=>(x.new a (x.own i a _ e).2.1).elim (fun q=>x.m0 a z q) fun q=>(x.pm a q).2 z
 obtain ⟨si,ai,vs,hH,l,rs⟩:=x.own i a _ e
 obtain ⟨hz,lo,va,ra,da⟩:=oz I.hok hH
 obtain ⟨o,es,ep,ho,r9⟩:=id da
 obtain ⟨kvs,hH2,y⟩:=x.freezeF (o:=o) e hp
 rw [hH] at hH2
 cases hH2
 have I2:L2.Inv X pins σ (upd H a (.frz o (.dK (aP ks vs)))) s:=I.write (x:=a) (e:=a) (t':=s.toks) (h':=s.heap) (by rw [hH];trivial) (.inl rfl) (fun b u _ q=>q) ⟨o,ho⟩ ⟨ho,hz,lo,va,ra,da⟩
 exact h pins s σ _ D I2 ⟨G,_,P,R,⟨_,y⟩,hu,k⟩
def Itd (a:Addr) (o:Obj) (ks:List Str):It :=
  ⟨fun i H=>i < ks.length∧∃ vs,vs.length=ks.length∧H a=some (.frz o (.dK (aP ks vs))),
   fun i H v H'=>H'=H∧∃ x,ks[i]?=some x∧v=.str x,
   fun i H=>i=ks.length∧∃ vs,vs.length=ks.length∧H a=some (.frz o (.dK (aP ks vs)))⟩
theorem rJ {X:Cx} {pins:List (Addr×Obj)} {σ:L2.St} {H:Hp} {s:Shared} {a:Addr} {o:Obj} {ks:List Str} {vs:List V} {es:Array DictEntry} {ep:Nat} (I:L2.Inv X pins σ H s) (hd:o.data=.dict es ep) (hl:vs.length=ks.length) (e:H a=some (.frz o (.dK (aP ks vs)))) :
  ∃ va,KV (aP ks vs) va∧va.length=ks.length∧(a == sysModules)=false∧s.heap.DictAt (aZ X.prog X.w) a va ep:=by
 obtain ⟨ho,hz,lo,va,ra,da⟩:=I.hok a _ e
 obtain ⟨ep',dt⟩:=da.dictAt
 obtain ⟨o',es',ho',r1,r2,r3⟩:=id dt
 rw [ho] at ho'
 cases ho'
 rw [hd] at r2
 cases r2
 refine⟨va,ra,?_,lo,dt⟩
 rw [← ra.length]
 unfold aP
 rw [List.length_zip,List.length_map];omega
theorem qA {P:Program} {w:World} {K:PySem.W.Frag} {tg:Expr} {a it:Addr} {o:Obj} {ks:List Str} {es:Array DictEntry} {ep:Nat} (hd:o.data=.dict es ep):Turn P w K tg (Itd a o ks) [it] it (fun i h=>h.IsKeyIter it a i ks.length ep) where
 mem:=by simp
 obj:=fun i h st b hb=>by
  have e:b=it:=by simpa using hb
  subst e
  obtain ⟨o,ho,_,d⟩:=st
  exact⟨o,ho,fun v=>by rw [d];nofun⟩
 keep:=fun i h h' st k=>st.at fun o e=>k it (by simp) o e
 item:=by
  intro X hP hw hK hc i pins s σ H E I hf st hg
  subst hP hw hK
  obtain ⟨f0,f1,f2,f3,f4,f5⟩:=hf it (by simp)
  obtain ⟨hi,vs,hl,e⟩:=hg
  obtain ⟨va,ra,lv,lo,dt⟩:=rJ I hd hl e
  rw [← lv] at st
  obtain ⟨⟨k,v⟩,hx⟩:∃ p,va[i]?=some p:=⟨va[i]'(by omega),by simp [show i < va.length by omega]⟩
  obtain ⟨⟨k2,v2⟩,q1,z1,_⟩:=ix ra hx
  obtain ⟨x,rfl,kx,_⟩:=jr q1
  simp only at z1
  subst z1
  refine wpAny_pyNext_dict_item st dt hx fun key h' hkey hit' sb=>⟨_,rfl,?_⟩
  rw [lv] at hit'
  obtain ⟨oi,ho,hoc,hod⟩:=id hit'
  have I1:Inv X pins σ H { s with heap:=h' }:=I.turned (t':=s.toks) (fun b o hb e=>sb.extBut b o hb e) f0 f1 f3 f4 f5
  have hkey:Value.isStrOf x key=true:=hkey
  obtain ⟨t,rfl⟩:=Value.isStrOf_shape hkey
  exact rC (s:={ s with heap:=h' }) (n:="dict_keyiterator") ho hoc hod (by decide) ⟨.str x,H,I1,⟨t,rfl⟩,⟨rfl,x,kx,rfl⟩,hit',fun b hb=>(hf b hb).1⟩
 done:=by
  intro X hP hw hK hc i pins s σ H E I hf st hg
  subst hP hw hK
  obtain ⟨f0,f1,f2,f3,f4,f5⟩:=hf it (by simp)
  obtain ⟨hi,vs,hl,e⟩:=hg
  obtain ⟨va,ra,lv,lo,dt⟩:=rJ I hd hl e
  rw [← lv] at st
  exact wpAny_pyNext_dict_end (I.ok.hd hc) st dt (by simp;omega) fun h' eb=>⟨rfl,I.turned (t':=s.toks) (fun b o hb e=>eb b o hb e) f0 f1 f3 f4 f5⟩
 self:=fun _ _ _ _ _ st h=>wpAny_pyIter_keyiter st h
section
variable {X:Cx} {tg e:Expr} {te:TDE}
def AQ (te:TE):TI:=fun σ H R=>te σ H fun x H1=>∃ a o ks vs,x=.ref a∧vs.length=ks.length∧H1 a=some (.frz o (.dK (aP ks vs)))∧R (Itd a o ks) H1
theorem xl {te:TE} (he:PE X e te):PI X tg e (AQ te):=by
 intro pins s σ H R I h
 refine thn (he pins s σ H _ I h) fun v s1 ⟨x,H1,I1,r1,q1⟩=>?_
 obtain ⟨a,o,ks,vs,rfl,hl,e1,q⟩:=q1
 cases r1
 obtain ⟨ho,hz,lo,va0,ra0,da⟩:=I1.hok a _ e1
 obtain ⟨o',es,ep,ho',r1,r2,r3⟩:=id da
 rw [ho] at ho'
 cases ho'
 obtain ⟨va,ra,lv,lo,dt⟩:=rJ I1 r2 hl e1
 refine wpAny_pyIter_dict lo dt ?_
 refine⟨s1.heap.objs.size,[s1.heap.objs.size],_,_,H1,rfl,I1.kept (t':=s1.toks) fun b o e=>Heap.get?_push_of_some _ e,qA r2,⟨_,Heap.get?_push_size _ rfl,rfl,by rw [lv];rfl⟩,fun b hb=>?_,q⟩
 have e:b=s1.heap.objs.size:=by simpa using hb
 subst e
 exact I1.fpOk (Nat.le_refl _) (I1.hok.fresh (Nat.le_refl _))
def yJ (t:TDE):TDC:=fun δ R=>t δ (wd fun d δ1=>∃ ks ds,d=.fd ks ds∧R (ks.map D.str) δ1)
theorem vj (h:DE X e te):CI X tg e (yJ te):=⟨_,xl h,fun G δ P σ H R Q s hs k=>up.mk s hs fun d δ1 h1 v H1 s1=>by
 obtain ⟨ks,ds,e,r⟩:=h1
 subst e
 have hat:∀ A δ σ H,Sx X.K G A δ ((.fd ks ds,v) :: P) σ H→∃ a vs o,v=.ref a∧vs.length=ks.length∧H a=some (.frz o (.dK (aP ks vs))):=fun A δ σ H x=>by
  have q:=x.pnd (.fd ks ds,v) (by simp)
  unfold Rep at q
  obtain ⟨a,vs,o,e,q,l,r⟩:=q
  exact⟨a,vs,o,e,by rw [l,Reps.length _ _ r],q⟩
 obtain ⟨A1,x1⟩:=id s1
 obtain ⟨a,vs0,o,rfl,l0,e0⟩:=hat _ _ _ _ x1
 have p0:Rep X.K (fun b=>G.M0 b∨A1 b) H1 (.fo o ks ds) (.ref a):=by
  have q:=x1.pnd (.fd ks ds,.ref a) (by simp)
  unfold Rep at q ⊢
  obtain ⟨a',vs,o',e,q,l,r⟩:=q
  cases e
  rw [e0] at q
  have hq:o=o'∧aP ks vs0=aP ks vs:=by
   have q:=Option.some.inj q
   injection q with q1 q2
   injection q2 with q2
   exact⟨q1,q2⟩
  exact⟨a,vs,rfl,by rw [e0,hq.2],l,r⟩
 have hat2:∀ A δ σ H,Sx X.K G A δ ((.fo o ks ds,.ref a) :: P) σ H→∃ vs,vs.length=ks.length∧H a=some (.frz o (.dK (aP ks vs))):=fun A δ σ H x=>by
  have q:=x.pnd (.fo o ks ds,.ref a) (by simp)
  unfold Rep at q
  obtain ⟨a',vs,e,q,l,r⟩:=q
  cases e
  exact⟨vs,by rw [l,Reps.length _ _ r],q⟩
 refine⟨a,o,ks,vs0,rfl,l0,e0,k _ δ1 r _ ((.fo o ks ds,.ref a) :: P) H1 (fun q hq=>by simp [hq]) ⟨A1,(x1.sub (P':=P) fun q hq=>by simp [hq]).push p0⟩ (fun A δ σ i H x hi=>?_) (fun A δ σ H x=>?_) fun A δ σ i y H H2 x hi hy=>?_⟩
 ·exact⟨by simpa using hi,hat2 _ _ _ _ x⟩
 ·exact⟨by simp,hat2 _ _ _ _ x⟩
 ·obtain ⟨rfl,x',hx',rfl⟩:=hy
  exact⟨Same.refl _,.str x',by rw [List.getElem?_map,hx'];rfl,by unfold Rep;rfl⟩⟩
end
end DL
namespace DL
open PySem PySem.Spec PyProof.Rows L2
theorem Inv.thaw {X:Cx} {pins:List (Addr×Obj)} {σ:L2.St} {H:Hp} {s:Shared} {a:Addr} {o:Obj} {kvs:List (Key×V)} (I:L2.Inv X pins σ H s) (e:H a=some (.frz o (.dK kvs))) (hx:∀ b u,X.H₀ b=some u→∃ ob xs,u=.frz ob (.lst xs)) :
  L2.Inv X pins σ (upd H a (.dK kvs)) s:=by
 have ne:∀ b,H b=none→b≠a:=fun b n z=>by rw [z,e] at n;cases n
 have n0:∀ b u,X.H₀ b=some u→b≠a:=fun b u hb z=>by
  obtain ⟨ob,xs,rfl⟩:=hx b u hb
  have:=I.base.frzs b ob _ hb
  rw [z,e] at this;cases this
 have base:Un X.fs X.ex X.H₀ (upd H a (.dK kvs)) X.s₀.heap s.heap :=
  ⟨I.base.keep,I.base.slot,fun b u q n hb=>by have z:=I.base.free b u q n hb;rw [aE (ne b z)];exact z,I.base.there,fun b xs q=>by rw [aE (n0 b _ q)];exact I.base.tups b xs q,fun b u xs q=>by rw [aE (n0 b _ q)];exact I.base.frzs b u xs q,fun b ps q=>by
   obtain ⟨m,hm⟩:=I.base.tbls b ps q
   exact⟨m,by rw [aE (n0 b _ q)];exact hm⟩⟩
 refine⟨I.ok,I.os,I.bare,base,I.loc,I.cell,by rw [aE (ne _ I.free)];exact I.free,fun x c hc=>by rw [aE (ne _ (I.freeC x c hc))];exact I.freeC x c hc,fun p hp=>?_,fun b u hb=>?_,I.len⟩
 ·obtain ⟨q1,q2,q3⟩:=I.pin p hp
  exact⟨q1,by rw [aE (ne _ q2)];exact q2,q3⟩
 ·by_cases z:b=a
  ·rw [z,aq] at hb
   cases hb
   rw [z]
   exact (I.hok a _ e).2
  ·rw [aE z] at hb
   refine (I.hok b u hb).stay (fun c v _ q=>q) (fun c q=>?_) fun c xs q=>?_
   ·rw [aE (fun w=>by rw [w,e] at q;cases q)];exact q
   ·rw [aE (fun w=>by rw [w,e] at q;cases q)];exact q
section
variable {X:Cx} {pos:Pos} {e:Expr}
def Bc (te:TE):TE:=fun σ H Q=>te σ H fun x H1=>∃ a o kvs,x=.ref a∧H1 a=some (.frz o (.dK kvs))∧Q x (upd H1 a (.dK kvs))
theorem vz {te:TE} (hx:∀ b u,X.H₀ b=some u→∃ ob xs,u=.frz ob (.lst xs)) (he:PE X e te):PE X e (Bc te):=by
 intro pins s σ H Q I h
 refine thn (he pins s σ H _ I h) fun v s1 ⟨x,H1,I1,r1,a,o,kvs,e1,e2,q⟩=>⟨x,_,Inv.thaw I1 e2 hx,r1,q⟩
def w4:V→List V→Hp→VK→Prop:=fun x vs H Q=>∃ a kvs,x=.ref a∧vs=[]∧H a=some (.dK kvs)∧Q .non (upd H a (.dK []))
theorem sd:MtM X "dict.clear" w4:=by
 intro pins s σ H x vs v us Q I rx rv h
 obtain ⟨a,kvs,rfl,rfl,hH,q⟩:=h
 cases rx
 cases rv
 exact wj I hH fun s' I'=>⟨.non,_,I',rfl,q⟩
end
mutual
theorem Rep.ndk {K:PySem.W.Frag} {M:Addr→Prop} {H:Hp} {a:Addr} {o:Obj} {kvs:List (Key×V)} {u:HO} (ea:H a=some (.frz o (.dK kvs))):∀ (d:D) (v:V),d.nd=true→Rep K M H d v→Rep K M (upd H a u) d v
 | .non,v,_,h=>by unfold Rep at h ⊢;exact h
 | .bl b,v,_,h=>by unfold Rep at h ⊢;exact h
 | .int i,v,_,h=>by unfold Rep at h ⊢;exact h
 | .str x,v,_,h=>by unfold Rep at h ⊢;exact h
 | .tup ds,v,n,h=>by
  unfold Rep at h ⊢
  obtain ⟨b,vs,e,q,r⟩:=h
  unfold D.nd at n
  refine⟨b,vs,e,?_,Reps.ndk ea ds vs n r⟩
  rcases q with (q | ⟨w,q⟩) | q
  ·exact .inl (.inl (by rw [aE (fun z=>by rw [z,ea] at q;cases q)];exact q))
  ·exact .inl (.inr ⟨w,by rw [aE (fun z=>by rw [z,ea] at q;cases q)];exact q⟩)
  ·exact .inr q
 | .lst ds,v,n,h=>by
  unfold Rep at h ⊢
  obtain ⟨b,vs,e,m,q,r⟩:=h
  unfold D.nd at n
  exact⟨b,vs,e,m,by rw [aE (fun z=>by rw [z,ea] at q;cases q)];exact q,Reps.ndk ea ds vs n r⟩
 | .fz ds,v,n,h=>by
  unfold Rep at h ⊢
  obtain ⟨b,vs,e,q,r⟩:=h
  unfold D.nd at n
  refine⟨b,vs,e,?_,Reps.ndk ea ds vs n r⟩
  rcases q with ⟨w,q⟩ | q
  ·exact .inl ⟨w,by rw [aE (fun z=>by rw [z,ea] at q;cases q)];exact q⟩
  ·exact .inr q
 | .dct ks ds,v,n,_=>by unfold D.nd at n;cases n
 | .fd ks ds,v,n,_=>by unfold D.nd at n;cases n
 | .fo _ ks ds,v,n,_=>by unfold D.nd at n;cases n
theorem Reps.ndk {K:PySem.W.Frag} {M:Addr→Prop} {H:Hp} {a:Addr} {o:Obj} {kvs:List (Key×V)} {u:HO} (ea:H a=some (.frz o (.dK kvs))):∀ (ds:List D) (vs:List V),D.nds ds=true→Reps K M H ds vs→Reps K M (upd H a u) ds vs
 | [],vs,_,h=>by unfold Reps at h ⊢;exact h
 | d :: ds,vs,n,h=>by
  unfold Reps at h ⊢
  obtain ⟨v,r,e,q,s⟩:=h
  unfold D.nds at n
  obtain ⟨n1,n2⟩:=Bool.and_eq_true_iff.mp n
  exact⟨v,r,e,Rep.ndk ea d v n1 q,Reps.ndk ea ds r n2 s⟩
end
def D.ndo:D→Bool
 | .lst xs=>D.nds xs
 | .dct _ xs=>D.nds xs
 | _=>false
def qx:Sl→Sl
 | .dat d=>if d.nd then .dat d else .no
 | .own a d=>if d.ndo then .own a d else .no
 | .no=>.no
def wipe (δ:En):En:=δ.map qx
theorem Sx.wipe {K:PySem.W.Frag} {G:Gf} {A:Addr→Prop} {δ:List Sl} {P:List (D×V)} {σ:L2.St} {H:Hp} {a:Addr} {o:Obj} {kvs:List (Key×V)} {u:HO} (s:Sx K G A δ P σ H) (ea:H a=some (.frz o (.dK kvs))) (hG:∀ b o,G.H0 b=some o→∃ ob xs,o=.frz ob (.lst xs)):Sx K G A (DL.wipe δ) [] σ (upd H a u):=by
 have get:∀ {i:Nat} {x:Sl},(DL.wipe δ)[i]?=some x→∃ y,δ[i]?=some y∧qx y=x:=fun {i x} h=>by
  unfold DL.wipe at h
  rw [List.getElem?_map] at h
  cases q:δ[i]? with
  | none=>rw [q] at h;cases h
  | some y=>rw [q] at h;exact⟨y,rfl,Option.some.inj h⟩
 have dt:∀ {y:Sl} {d:D},qx y=.dat d→y=.dat d∧d.nd=true:=fun {y d} h=>by
  cases y with
  | no=>cases h
  | dat d' =>
   have h:(if d'.nd=true then Sl.dat d' else Sl.no)=_:=h
   by_cases z:d'.nd=true
   ·rw [if_pos z] at h;cases h;exact⟨rfl,z⟩
   ·rw [if_neg z] at h;cases h
  | own b d' =>
   have h:(if d'.ndo=true then Sl.own b d' else Sl.no)=_:=h
   by_cases z:d'.ndo=true
   ·rw [if_pos z] at h;cases h
   ·rw [if_neg z] at h;cases h
 have ot:∀ {y:Sl} {b:Addr} {d:D},qx y=.own b d→y=.own b d∧d.ndo=true:=fun {y b d} h=>by
  cases y with
  | no=>cases h
  | dat d' =>
   have h:(if d'.nd=true then Sl.dat d' else Sl.no)=_:=h
   by_cases z:d'.nd=true
   ·rw [if_pos z] at h;cases h
   ·rw [if_neg z] at h;cases h
  | own b d' =>
   have h:(if d'.ndo=true then Sl.own b d' else Sl.no)=_:=h
   by_cases z:d'.ndo=true
   ·rw [if_pos z] at h;cases h;exact⟨rfl,z⟩
   ·rw [if_neg z] at h;cases h
 have st:∀ b,H b≠none→upd H a u b≠none:=fun b e=>by
  by_cases z:b=a
  ·rw [z,aq];exact fun q=>nomatch q
  ·rw [aE z];exact e
 refine⟨fun b w e n=>?_,fun b e=>st b (s.stay b e),s.m0,s.pm,s.new,fun b h=>st b (s.thr b h),by unfold DL.wipe;rw [List.length_map,s.len],fun i d e=>?_,fun i b d e=>?_,fun i j b d e h1 h2=>?_,fun p hp=>nomatch hp⟩
 ·obtain ⟨ob,xs,rfl⟩:=hG b w e
  have q:=s.old b _ e n
  rw [aE (fun z=>by rw [z,ea] at q;cases q)];exact q
 ·obtain ⟨y,h1,h2⟩:=get e
  obtain ⟨rfl,h3⟩:=dt h2
  obtain ⟨v,q,r⟩:=s.dat i d h1
  exact⟨v,q,Rep.ndk ea _ _ h3 r⟩
 ·obtain ⟨y,h1,h2⟩:=get e
  obtain ⟨rfl,h3⟩:=ot h2
  obtain ⟨q1,q2,q3⟩:=s.own i b d h1
  refine⟨q1,q2,?_⟩
  cases d with
  | lst ds =>
   obtain ⟨vs,q,r⟩:=q3
   exact⟨vs,by rw [aE (fun z=>by rw [z,ea] at q;cases q)];exact q,Reps.ndk ea _ _ h3 r⟩
  | dct ks ds =>
   obtain ⟨vs,q,l,r⟩:=q3
   exact⟨vs,by rw [aE (fun z=>by rw [z,ea] at q;cases q)];exact q,l,Reps.ndk ea _ _ h3 r⟩
  | _=>exact q3.elim
 ·obtain ⟨y1,a1,b1⟩:=get h1
  obtain ⟨y2,a2,b2⟩:=get h2
  obtain ⟨rfl,_⟩:=ot b1
  obtain ⟨rfl,_⟩:=ot b2
  exact s.inj i j b d e a1 a2
section
variable {X:Cx} {pos:Pos} {e:Expr} {ta:TDE}
def yB (t:TDE):TDS:=fun R δ=>R.tp∧t δ (wd fun d δ1=>∃ ks ds,d=.fd ks ds∧R.nx (wipe δ1))
theorem vp {apos cpos:Pos} (hx:∀ b u,X.H₀ b=some u→∃ ob xs,u=.frz ob (.lst xs)) (he:DE X e ta)
  (hbase:attributeBase e "clear" X.env (eval e X.env)=eval e X.env:=by rfl) (hline:(apos.endLine == cpos.line)=true:=by rfl)
  (hsw:swapsWith (.Call (.Attribute e "clear" apos) [] [] cpos) none pos.line X.env=pure false:=by rfl) :
  DS X (.Expr (.Call (.Attribute e "clear" apos) [] [] cpos) pos) (yB ta) :=
 PS.imp (jt (yj PySem.F.plainAttrs_dict PySem.F.slot_dict_clear PySem.F.type_dict_clear sd (vz hx he) hbase hline) hsw) fun E σ H ⟨G,δ,P,R,s,⟨ht,h⟩,k,_,_,_,k5⟩=>by
  obtain ⟨hP,hG⟩:=k5 ht
  subst hP
  refine up.mk s h fun d δ1 ⟨ks,ds,ed,r⟩ v H1 ⟨A,x⟩=>?_
  subst ed
  have q:=x.pnd (.fd ks ds,v) (by simp)
  unfold Rep at q
  obtain ⟨a,vs,o,rfl,ea,l,rs⟩:=q
  refine⟨a,o,_,rfl,ea,.inr (.inr (.inl ⟨rfl,.inl ⟨_,aq⟩⟩)),a,_,rfl,rfl,aq,?_⟩
  have e2:upd (upd H1 a (.dK (aP ks vs))) a (.dK [])=upd H1 a (.dK []):=by
   funext b
   by_cases z:b=a
   ·rw [z,aq,aq]
   ·rw [aE z,aE z,aE z]
  rw [e2]
  exact k _ r σ _ ⟨A,x.wipe ea hG⟩
end
def spT (K:PySem.W.Frag) (f:List D→(D→Prop)→Prop):Sp:=fun vs H Q E=>Only H∧spD K f vs H Q E
section
variable {P:Program} {w:World} {K:PySem.W.Frag} {mg:Str→Option Value} {base:Heap}
theorem rK {H:Hp} (h:Only H):∀ b u,H b=some u→∃ ob xs,u=.frz ob (.lst xs):=fun b u e=>by
 rcases h b with z | ⟨o,xs,z⟩
 ·rw [z] at e;cases e
 ·rw [z] at e;cases e;exact⟨o,xs,rfl⟩
theorem Bu {x:Str} {st:Stmt} {N ps:List Str} {k:Nat} {a:Addr} {fd:FuncData} {f:List D→(D→Prop)→Prop} (Fu:Fun K x x st a fd) (Sc:ax N ps (ak st)) (len:∀ ds R,f ds R→ds.length=ps.length)
    (hbody:∀ (cdv:Value) (A:Around) (outer:List Env) (s:Shared) (H:Hp) (E:XK) (ds:List D) (R:D→Prop),Room k (A.deeper (envOfC x (ak st) s.heap.objs.size a cdv))→(∀ b u,H b=some u→∃ ob xs,u=.frz ob (.lst xs))→f ds R →
      ∃ t,DSs (cxOf CX0 P w K mg base N x (ak st) a cdv A outer s H E).nox (a9 st) t∧t { nx:=fun _=>R .non,rt:=fun d _=>R d,ro:=R,tp:=True } (eo N ds)) :
    FnOk P w K mg base CX0 (k + 1) a fd ps (spT K f):=by
  refine Fu.ok Sc (fun vs H Q E h=>kg h.2 len) (fun cdv A outer s H vs Q E hr h=>?_)
  obtain ⟨on,M,ds,R,hm,rs,hf,hk⟩:=h
  obtain ⟨t,ht,hq⟩:=hbody cdv A outer s H E ds R hr (rK on) hf
  refine⟨_,ht,⟨M,H,fun _=>False⟩,eo N ds,[],_,pZ N hm rs,hq,fun δ' r σ' H' ⟨A',x⟩=>?_,⟨fun d δ' r v σ' H' ⟨A',x⟩=>?_,fun d r a H' ⟨o1,o2,o3,o4⟩=>hk d r (.ref a) H' (fun b o e=>o1 b o e id) (o4.rep o3 fun b z=>.inl z)⟩,fun _ h=>h.elim,fun _ h=>h.elim,fun _=>⟨rfl,rK on⟩⟩
  · exact hk .non r .non H' (fun b o e=>x.old b o e id) (by unfold Rep;rfl)
  · exact hk d r v H' (fun b o e=>x.old b o e id) (Rep.more (fun b z=>.inl (.inl z)) _ _ (x.pnd (d,v) (by simp)))
theorem vT {k:Nat} {ps:List Str} {a:Addr} {fd:FuncData} (F:FnOk P w K mg base CX0 k a fd ps (spT K fLaw)):FnOk P w K mg base CX0 k a fd ps (xT K) :=
 F.imp fun vs H Q E ⟨l,ns,e,sq,on,h63,hb,q⟩=>by
  subst e
  refine⟨on,fun _=>False,[.fz (ns.map D.int)],fun d=>d=.bl true,fun _ h=>h.elim,Reps.one ?_,⟨ns,rfl,h63,hb,rfl⟩,fun d e v H' _ r=>?_⟩
  ·unfold Rep
   refine⟨l,ns.map V.int,rfl,?_,Reps.ints ns⟩
   rcases sq with (h | ⟨o,h⟩) | h
   ·rcases on l with z | ⟨o,xs,z⟩
    ·rw [z] at h;cases h
    ·rw [z] at h;cases h
   ·exact .inl ⟨o,h⟩
   ·exact .inr (.inr h)
  ·subst e
   rw [gX r]
   exact q H'
end
def fEqf:List D→(D→Prop)→Prop
 | [.int i,.int j],R=>R (.bl (decide (i=j)))
 | [.str x,.str y],R=>R (.bl (decide (x=y)))
 | [.bl x,.bl y],R=>R (.bl (decide (x=y)))
 | [.tup xs,.tup ys],R=>∃ a b c d,xs=[.int a,.int b]∧ys=[.int c,.int d]∧R (.bl (decide ((a,b)=(c,d))))
 | _,_=>False
theorem vX {d0:List D} {R:D→Prop} (h:fEqf d0 R):(∃ (i:Int) (j:Int),d0=[.int i,.int j]∧R (.bl (decide (i=j))))∨(∃ (x:Str) (y:Str),d0=[.str x,.str y]∧R (.bl (decide (x=y))))∨(∃ (x:Bool) (y:Bool),d0=[.bl x,.bl y]∧R (.bl (decide (x=y))))∨(∃ (xs:List D) (ys:List D),d0=[.tup xs,.tup ys]∧∃ a b c d,xs=[.int a,.int b]∧ys=[.int c,.int d]∧R (.bl (decide ((a,b)=(c,d))))):=by
 rcases d0 with _ | ⟨a,_ | ⟨b,_ | ⟨c,l⟩⟩⟩
 ·exact False.elim h
 ·cases a<;>exact False.elim h
 ·cases a<;>first | exact False.elim h | (cases b<;>first | exact False.elim h | exact .inl ⟨_,_,rfl,h⟩ | exact .inr (.inl ⟨_,_,rfl,h⟩) | exact .inr (.inr (.inl ⟨_,_,rfl,h⟩)) | exact .inr (.inr (.inr ⟨_,_,rfl,h⟩)))
 ·cases a<;>first | exact False.elim h | (cases b<;>exact False.elim h)
theorem wV {a b c d:Int} {R:D→Prop}:fEqf [.tup [.int a,.int b],.tup [.int c,.int d]] R↔R (.bl (decide ((a,b)=(c,d)))):=by
 constructor
 ·intro h
  obtain ⟨_,_,_,_,e,e',h⟩:=h
  cases e
  cases e'
  exact h
 ·exact fun h=>⟨_,_,_,_,rfl,rfl,h⟩
theorem tO {i j:Int} {R:D→Prop}:fEqf [.int i,.int j] R↔R (.bl (decide (i=j))):=Iff.rfl
theorem wS {i j:Bool} {R:D→Prop}:fEqf [.bl i,.bl j] R↔R (.bl (decide (i=j))):=Iff.rfl
theorem tH {i j:Str} {R:D→Prop}:fEqf [.str i,.str j] R↔R (.bl (decide (i=j))):=Iff.rfl
section
variable {X:Cx}
theorem xr (hu:X.A.units + 64 < cLine):OpR X (compareOp .Eq) fun x y=>aS X.K fEqf [x,y]:=by
 intro pins s σ H x y v u Q I rx ry h
 obtain ⟨M,ds,R,m,rs,h,k⟩:=h
 replace h:=vX h
 rcases h with ⟨_,_,rfl,h⟩ | ⟨_,_,rfl,h⟩ | ⟨_,_,rfl,h⟩ | ⟨_,_,rfl,h⟩
 ·exact o_eq hu pins s σ H x y v u Q I rx ry ⟨M,_,R,m,rs,h,k⟩
 ·exact o_eq hu pins s σ H x y v u Q I rx ry ⟨M,_,R,m,rs,h,k⟩
 ·exact o_eq hu pins s σ H x y v u Q I rx ry ⟨M,_,R,m,rs,h,k⟩
 ·obtain ⟨i1,i2,j1,j2,rfl,rfl,h⟩:=h
  obtain ⟨h1,h2⟩:=b6 rs
  unfold Rep at h1 h2
  obtain ⟨a,vs,rfl,sq,rs1⟩:=h1
  obtain ⟨b,ws,rfl,sq',rs2⟩:=h2
  cases rx
  cases ry
  obtain ⟨v1,v2,rfl,p1,p2⟩:=fg rs1
  obtain ⟨w1,w2,rfl,p3,p4⟩:=fg rs2
  cases aO p1
  cases aO p2
  cases aO p3
  cases aO p4
  obtain ⟨its,r1,t1,_⟩:=I.tuple sq
  obtain ⟨its',r2,t2,_⟩:=I.tuple sq'
  cases r1 with
  | cons q1 r1 =>
   cases r1 with
   | cons q2 r1 =>
    cases r1
    obtain ⟨s1,rfl⟩:=q1
    obtain ⟨s2,rfl⟩:=q2
    cases r2 with
    | cons q3 r2 =>
     cases r2 with
     | cons q4 r2 =>
      cases r2
      obtain ⟨s3,rfl⟩:=q3
      obtain ⟨s4,rfl⟩:=q4
      refine SeqAt.eq_tupleAt (e:=fun n=>if n=0 then i1 == j1 else i2 == j2) t1 t2 (by omega) (fun n h1 h2=>?_) ?_
      ·match n,h1 with
       | 0,_=>exact SeqAt.EqAt.int_int i1 s1 j1 s3
       | 1,_=>exact SeqAt.EqAt.int_int i2 s2 j2 s4
      ·refine⟨.bl _,H,I,rfl,?_⟩
       have e1:((List.range (min [Value.int i1 s1,Value.int i2 s2].toArray.size [Value.int j1 s3,Value.int j2 s4].toArray.size)).all (fun n=>if n=0 then i1 == j1 else i2 == j2) && [Value.int i1 s1,Value.int i2 s2].toArray.size == [Value.int j1 s3,Value.int j2 s4].toArray.size)=decide ((i1,i2)=(j1,j2)):=by
        show ((i1 == j1) && ((i2 == j2) && true) && true)=_
        rw [Bool.eq_iff_iff]
        simp
       rw [e1]
       exact k _ h _ H (Same.refl H) (Rep.sc rfl)
end
end DL
namespace DL
open PySem PySem.Spec PyProof.Rows L2
theorem vt {prog:Program} {w:World} {A:Around} {E:Value→Shared→Prop} {s:Shared} {l b:Addr} {x1 x2 y1 y2:Value} {Q:Value→Shared→Prop} (hl:s.heap.IsTuple l #[x1,x2]) (hb:s.heap.IsTuple b #[y1,y2]) (hu:A.units < cLine)
  (h1:∀ (E:Value→Shared→Prop) (Q:Bool→Shared→Prop),Q true s→wpAny (model prog w) A.in1 (eqBool x1 y1) Q E s) (h2:∀ (E:Value→Shared→Prop) (Q:Bool→Shared→Prop),Q true s→wpAny (model prog w) A.in1 (eqBool x2 y2) Q E s) (h:Q (.bool true) s):wpAny (model prog w) A (compareOp .Eq (.ref l) (.ref b)) Q E s:=by
 obtain ⟨⟨cls,dd,data,sl⟩,ho,hc,n,hd⟩:=id hl
 obtain ⟨⟨cls2,dd2,data2,sl2⟩,ho2,hc2,n2,hd2⟩:=id hb
 simp only at hc hd hc2 hd2
 subst hc hd hc2 hd2
 refine wpAny_richCompare_same_room (op:=.Eq) ⟨_,ho,rfl⟩ ⟨_,ho2,rfl⟩ F.slot_tuple_eq (wpAny_call_entry F.slot_tuple_eq ⟨_,ho,rfl⟩ F.entry_tuple_eq ?_ (F.args_tuple_eq_2 _ _)) hu
 obtain ⟨hp,g,d,tk,os⟩:=s
 have f2:=AutoSeq1.sub_tuple_tuple
 have hZ:((#[x1,x2]:Array Value).toList.zip (#[y1,y2]:Array Value).toList)=[(x1,y1),(x2,y2)]:=rfl
 wp_walk using AutoSeq1.wpAny_loadPart' ho,AutoSeq1.wpAny_loadPart' ho2,h1 _ _,h2 _ _
 exact⟨.bool true,rfl,(fun x=>nomatch x),h⟩
section
variable {X:Cx}
def j3:D→Option (List Str×List D)
 | .dct ks ds=>some (ks,ds)
 | .fd ks ds=>some (ks,ds)
 | _=>none
theorem jZ {K:PySem.W.Frag} {M:Addr→Prop} {H:Hp} {d:D} {ks:List Str} {ds:List D} {v:V} (e:j3 d=some (ks,ds)) (r:Rep K M H d v):∃ a vs,v=.ref a∧Rd H a (.dK (aP ks vs))∧ks.length=ds.length∧Reps K M H ds vs:=by
 cases d<;>simp only [j3,reduceCtorEq,Option.some.injEq,Prod.mk.injEq] at e
 ·obtain ⟨rfl,rfl⟩:=e
  unfold Rep at r
  obtain ⟨a,vs,e,_,q,l,r⟩:=r
  exact⟨a,vs,e,.inl q,l,r⟩
 ·obtain ⟨rfl,rfl⟩:=e
  unfold Rep at r
  obtain ⟨a,vs,o,e,q,l,r⟩:=r
  exact⟨a,vs,e,.inr ⟨o,q⟩,l,r⟩
def fEqd:List D→(D→Prop)→Prop
 | [.tup xs,.tup ys],R=>∃ x d y e,xs=[.str x,d]∧ys=[.str y,e]∧x=y∧∃ ks ds,j3 d=some (ks,ds)∧j3 e=some (ks,ds)∧ks.Nodup∧D.nds ds=true∧D.dps ds≤50∧R (.bl true)
 | _,_=>False
theorem vV {d0:List D} {R:D→Prop} (h:fEqd d0 R):∃ (xs:List D) (ys:List D),d0=[.tup xs,.tup ys]∧∃ x d y e,xs=[.str x,d]∧ys=[.str y,e]∧x=y∧∃ ks ds,j3 d=some (ks,ds)∧j3 e=some (ks,ds)∧ks.Nodup∧D.nds ds=true∧D.dps ds≤50∧R (.bl true):=by
 rcases d0 with _ | ⟨a,_ | ⟨b,_ | ⟨c,l⟩⟩⟩
 ·exact False.elim h
 ·cases a<;>exact False.elim h
 ·cases a<;>first | exact False.elim h | (cases b<;>first | exact False.elim h | exact⟨_,_,rfl,h⟩)
 ·cases a<;>first | exact False.elim h | (cases b<;>exact False.elim h)
theorem vC {x y:Str} {d e:D} {R:D→Prop}:fEqd [.tup [.str x,d],.tup [.str y,e]] R↔x=y∧∃ ks ds,j3 d=some (ks,ds)∧j3 e=some (ks,ds)∧ks.Nodup∧D.nds ds=true∧D.dps ds≤50∧R (.bl true):=by
 constructor
 ·intro h
  obtain ⟨_,_,_,_,e,e',h⟩:=h
  cases e
  cases e'
  exact h
 ·exact fun h=>⟨_,_,_,_,rfl,rfl,h⟩
theorem BD (hu:X.A.units + 64 < cLine):OpR X (compareOp .Eq) fun x y=>aS X.K fEqd [x,y]:=by
 intro pins s σ H x y v u Q I rx ry h
 obtain ⟨M,ds0,R,m,rs,h,k⟩:=h
 replace h:=vV h
 obtain ⟨_,_,rfl,h⟩:=h
 ·obtain ⟨z,d1,_,d2,rfl,rfl,rfl,ks,ds,e1,e2,nd,hn,hd,h⟩:=h
  obtain ⟨h1,h2⟩:=b6 rs
  unfold Rep at h1 h2
  obtain ⟨a,vs,rfl,sq,rs1⟩:=h1
  obtain ⟨b,ws,rfl,sq',rs2⟩:=h2
  cases rx
  cases ry
  obtain ⟨v1,v2,rfl,p1,p2⟩:=fg rs1
  obtain ⟨w1,w2,rfl,p3,p4⟩:=fg rs2
  cases bu p1
  cases bu p3
  obtain ⟨a2,va,rfl,qa,la,ra⟩:=jZ e1 p2
  obtain ⟨b2,vb,rfl,qb,lb,rb⟩:=jZ e2 p4
  obtain ⟨its,r1,t1,_⟩:=I.tuple sq
  obtain ⟨its',r2,t2,_⟩:=I.tuple sq'
  cases r1 with
  | cons q1 r1 =>
   cases r1 with
   | cons q2 r1 =>
    cases r1
    obtain ⟨s1,rfl⟩:=q1
    cases q2
    cases r2 with
    | cons q3 r2 =>
     cases r2 with
     | cons q4 r2 =>
      cases r2
      obtain ⟨s3,rfl⟩:=q3
      cases q4
      refine vt t1 t2 (by omega) (fun E Q hq=>?_) (fun E Q hq=>?_) ?_
      ·have:=SeqAt.EqAt.str_str (A:=X.A.in1) (s:=s) z s1 z s3
       rw [beq_self_eq_true] at this
       exact this _ _ E Q hq
      ·by_cases e:a2=b2
       ·rw [e];exact SeqAt.EqAt.same _ _ _ E Q hq
       ·unfold eqBool
        refine wpAny_holding ?_
        refine wpAny_ite_split (fun hab=>absurd (by have:=eq_of_beq hab;injection this) e) (fun _=>?_)
        ·obtain ⟨_,lo,ka,ka1,da⟩:=fP I.hok qa
         obtain ⟨_,lo',kb,kb1,db⟩:=fP I.hok qb
         have l1:=ka1.length
         have l2:=kb1.length
         have m1:=Reps.length _ _ ra
         have m2:=Reps.length _ _ rb
         have e3:ka.length=kb.length:=by
          rw [← l1,← l2]
          unfold aP
          rw [List.length_zip,List.length_zip,← m1,← m2]
         refine wpAny_bind (PySem.W.keq_eq (r:=true) lo lo' da db (by rw [bg];omega) (fun _=>m8 I nd hn (by rw [bg,bg];omega) la ra rb ka1 kb1) ?_)
         have:(ka.length == kb.length)=true:=by rw [e3];simp
         rw [this]
         exact wpAny_truthy_bool hq
      ·exact⟨.bl true,H,I,rfl,k _ h _ H (Same.refl H) (Rep.sc rfl)⟩
end
end DL
namespace DL
open PySem PySem.Spec PyProof.Rows L2
def uW (i:Nat) (f:List D→(D→Prop)→Prop) (ta tb:TDE):TDE:=fun δ R=>ta δ (wd fun x δ1=>tb δ1 (wd fun y δ2=>∃ a d,δ2[i]?=some (.own a d)∧f [x,y,d] fun r=>r.im=true∧R (.d r) δ2))
theorem uc {X:Cx} {a b:Expr} {ta tb:TDE} {f:List D→(D→Prop)→Prop} {x y:Str} {k:Nat} {ps:List Str} {p p2 pos:Pos} (i:Nat) (C:Cal X.prog X.w X.K X.mg X.base k x ps (spD X.K f)) (hr:Room k X.A) (hg:Gl X x) (ha:DE X a ta) (hb:DE X b tb) (hN:X.N[i]?=some y:=by rfl)
  (hv:Vis X.env.scope y:=by walk_at "v3") (hd:(y == ("__debug__":Str))=false:=by decide) (hcd:(y == ("__classdict__":Str))=false:=by decide)
  (hdb:(x == ("__debug__":Str))=false:=by decide) (he:starEach [a,b,.Name y p2] X.env=(false,eval a X.env) :: starEach [b,.Name y p2] X.env:=by rfl) (he1:starEach [b,.Name y p2] X.env=(false,eval b X.env) :: starEach [.Name y p2] X.env:=by rfl)
  (he2:starEach [.Name y p2] X.env=(false,eval (.Name y p2) X.env) :: starEach [] X.env:=by rfl) (hpl:(backTo pos (starEach [b,.Name y p2] X.env)).any (·.1)=false:=by rfl) :
  DE X (.Call (.Name x p) [a,b,.Name y p2] [] pos) (uW i f ta tb):=by
 obtain ⟨g,fd,F,b',kp,m⟩:=C.ex
 refine PE.imp (jg F hr hg m kp b' .nil tR (ba ha (ba hb (ba (cE hN hv hd hcd) dy he2) he1) he) hdb he hpl) fun σ H Q ⟨G,δ,P,R,s,h,k,_⟩=>up.mk s h fun z δ1 h1 v H1 s1=>up.mk s1 h1 fun z2 δ2 ⟨a0,d0,hi,hf⟩ v2 H2 s2=>⟨.ref a0,s2.own hi,?_⟩
 show aS X.K f ([v,v2,.ref a0]++[]) H2 Q
 rw [List.append_nil]
 obtain ⟨A,q⟩:=s2
 obtain ⟨_,aa,oo⟩:=q.own i a0 d0 hi
 have hM:∀ b,((G.M0 b∨A b)∧b≠a0)→(G.M0 b∨A b)∨H2 b=none:=fun b h=>.inl h.1
 refine⟨fun b=>(G.M0 b∨A b)∧b≠a0,[z,z2,d0],fun r=>r.im=true∧R (.d r) δ2,fun b h=>q.mem b h.1,Reps.cons (Rep.more hM _ _ (q.pnd (z,v) (by simp))) (Reps.cons (Rep.more hM _ _ (q.pnd (z2,v2) (by simp))) (Reps.one (oo.rep (fun z=>z.2 rfl) fun b z=>z.1))),hf,fun r ⟨im,hr⟩ u H' sm rp=>?_⟩
 exact k r δ2 hr u H' ⟨A,((q.same sm).sub (P':=P) fun p hp=>by simp [hp]).push (Rep.im _ _ im rp)⟩
theorem Sx.slot {K:PySem.W.Frag} {G:Gf} {A:Addr→Prop} {δ:List Sl} {P P':List (D×V)} {σ:L2.St} {H:Hp} {i:Nat} {p:Addr} {d:D} (s:Sx K G A δ P σ H) (aa:A p) (oo:bA K (fun b=>G.M0 b∨A b) H p d) (hno:∀ (j:Nat) e,δ[j]?≠some (.own p e)) (hP:∀ q∈P',q∈P) :
  Sx K G A (δ.set i (.own p d)) P' (σ.set i (some (.ref p))) H:=by
 refine⟨s.old,s.stay,s.m0,s.pm,s.new,s.thr,by rw [List.length_set,List.length_set,s.len],fun j d' e=>?_,fun j b d' e=>?_,fun j k b d' e' h1 h2=>?_,fun q hq=>s.pnd q (hP q hq)⟩
 ·rcases aU e with ⟨_,z,_⟩ | ⟨hij,e⟩
  ·cases z
  ·obtain ⟨v,q,r⟩:=s.dat j d' e
   exact⟨v,by rw [List.getElem?_set_ne hij];exact q,r⟩
 ·rcases aU e with ⟨hij,z,hl⟩ | ⟨hij,e⟩
  ·cases z
   subst hij
   exact⟨by rw [List.getElem?_set_self (by rw [← s.len];exact hl)],aa,oo⟩
  ·obtain ⟨q,r,o⟩:=s.own j b d' e
   exact⟨by rw [List.getElem?_set_ne hij];exact q,r,o⟩
 ·rcases aU h1 with ⟨hij,z,hl⟩ | ⟨hij,e⟩
  ·cases z
   rcases aU h2 with ⟨hik,_,_⟩ | ⟨hik,e2⟩
   ·rw [← hij,← hik]
   ·exact absurd e2 (hno k _)
  ·rcases aU h2 with ⟨hik,z,_⟩ | ⟨hik,e2⟩
   ·cases z
    exact absurd e (hno j _)
   ·exact s.inj j k b d' e' e e2
def vh (i:Nat) (src:TDC) (nt:Nat) (caps:List (Nat×Str)) (g:TDG) (tc:TDT) (te:TDE):TDS:=fun R δ=>src δ fun xs δ1=>xs.length≤9000∧∃ f:D→Option D,
 (∀ x∈xs,allT nt fun ts=>g x (ts++capL caps δ1) fun δ2=>tc δ2 fun b δ3=>if b=true then te δ3 (wd fun y δ4=>okT nt δ4 (capL caps δ1)∧f x=some y) else okT nt δ3 (capL caps δ1)∧f x=none)∧∀ a,R.nx (δ1.set i (.own a (.lst (xs.filterMap f))))
theorem tJ {X:Cx} {elt tgt iter:Expr} {ifs:List Expr} {scope:Scope} {pos pos2 pos':Pos} {src:TDC} {cl:List (Str×Addr)} {te:TDE} (i:Nat) {y:Str} (hN:X.N.Nodup) (tn:List Str) (caps:List (Nat×Str)) {g:TDG} {tc:TDT}
  (hcalm:X.calm=true) (hclos:closureFor scope X.env=pure cl) (hcell:∀ y∈scope.names,y.2≠.cell) (hkind:scope.kind=.function) (hnames:∀ y∈scope.names,y.2=.local→scope.names.lookup y.1=some .local)
  (hcl:∀ x c,cl.lookup x=some c→X.env.cells.lookup x=some c) (hhas:∀ x,((relabel scope X.env).names.lookup x=some .cell∨(relabel scope X.env).names.lookup x=some .free)→∃ c,cl.lookup x=some c)
  (hcap:∀ p∈caps,X.N[p.1]?=some p.2∧X.env.scope.names.lookup p.2=some .cell∧((relabel scope X.env).names.lookup p.2=some .cell∨(relabel scope X.env).names.lookup p.2=some .free))
  (hi:CI X.nox tgt iter src)
  (hb:∀ s2 H2 C fp pn,DG (df X (tn++caps.map (·.2)) scope cl s2 H2 C fp pn) tgt g∧DF (df X (tn++caps.map (·.2)) scope cl s2 H2 C fp pn) ifs tc∧DE (df X (tn++caps.map (·.2)) scope cl s2 H2 C fp pn) elt te)
  (hs:∀ x,foldedSetIterable iter X.env x=pure x:=by intro _;rfl) (hi':X.N[i]?=some y:=by rfl) (hx:Loc X.env.scope y:=by walk_at "v2")
  (hsw:swapsWith (.ListComp elt [⟨tgt,iter,ifs,0⟩] scope pos) (some (.Name y pos')) pos2.line X.env=pure true:=by rfl) (hf:X.fn y=true∨X.env.scope.names.lookup y=some .local :=by walk_at "v1") :
  DS X.nox (.Assign [.Name y pos'] (.ListComp elt [⟨tgt,iter,ifs,0⟩] scope pos) pos2) (vh i src tn.length caps g tc te):=by
 obtain ⟨wi,hi,hw⟩:=hi
 refine PS.imp (nr (g:=upG X.K g) (tc:=upT X.K tc) (te:=up X.K te) tn caps hcalm hclos hcell hkind hnames hcl hhas hcap hi hb hs hN hi' hx hsw hf) fun E σ H ⟨G,δ,P,R,s,h,k,_⟩=>?_
 refine hw G δ P σ H _ _ s h fun xs δ1 ⟨hz,f,hf,r⟩ J P1 H1 hP s1 hgo hst hyl p hp=>?_
 refine iQ (Q:=fun x H1=>qV i x σ H1 E.nx) s1 hz (fun A i H x hi=>hgo A _ _ i H x hi) (fun A H x=>hst A _ _ H x) (fun A i x H H2 s hi hy=>hyl A _ _ i x H H2 s hi hy) hf p hp fun A acc H' hA ho x hac rs=>?_
 exact k _ (r p) _ H' ⟨_,x.slot (P':=P) (.inr rfl) ⟨acc,hac,rs⟩ (fun j e z=>hA (.inr (ho j p e z))) hP⟩
theorem gl {X:Cx} {elt tgt iter:Expr} {ifs:List Expr} {scope:Scope} {pos pos2 pos':Pos} {src:TDC} {cl:List (Str×Addr)} {te:TDE} (i:Nat) {y:Str} (hN:X.N.Nodup) (tn:List Str) (caps:List (Nat×Str)) {g:TDG} {tc:TDT}
  (hcalm:X.calm=true) (hclos:closureFor scope X.env=pure cl) (hcell:∀ y∈scope.names,y.2≠.cell) (hkind:scope.kind=.function) (hnames:∀ y∈scope.names,y.2=.local→scope.names.lookup y.1=some .local)
  (hcl:∀ x c,cl.lookup x=some c→X.env.cells.lookup x=some c) (hhas:∀ x,((relabel scope X.env).names.lookup x=some .cell∨(relabel scope X.env).names.lookup x=some .free)→∃ c,cl.lookup x=some c)
  (hcap:∀ p∈caps,X.N[p.1]?=some p.2∧X.env.scope.names.lookup p.2=some .cell∧((relabel scope X.env).names.lookup p.2=some .cell∨(relabel scope X.env).names.lookup p.2=some .free))
  (hi:CI X.nox tgt iter src)
  (hb:∀ s2 H2 C fp pn,DG (df X (tn++caps.map (·.2)) scope cl s2 H2 C fp pn) tgt g∧DF (df X (tn++caps.map (·.2)) scope cl s2 H2 C fp pn) ifs tc∧DE (df X (tn++caps.map (·.2)) scope cl s2 H2 C fp pn) elt te)
  (hs:∀ x,foldedSetIterable iter X.env x=pure x:=by intro _;rfl) (hi':X.N[i]?=some y:=by rfl) (hx:Loc X.env.scope y:=by walk_at "v2")
  (hsw:swapsWith (.ListComp elt [⟨tgt,iter,ifs,0⟩] scope pos) (some (.Name y pos')) pos2.line X.env=pure true:=by rfl) (hf:X.fn y=true∨X.env.scope.names.lookup y=some .local :=by walk_at "v1") :
  DS X.nox (.Assign [.Name y pos'] (.ListComp elt [⟨tgt,iter,ifs,0⟩] scope pos) pos2) (dSet i (vS src tn.length caps g tc te)):=by
 obtain ⟨wi,hi,hw⟩:=hi
 refine PS.imp (nr (g:=upG X.K g) (tc:=upT X.K tc) (te:=up X.K te) tn caps hcalm hclos hcell hkind hnames hcl hhas hcap hi hb hs hN hi' hx hsw hf) fun E σ H ⟨G,δ,P,R,s,h,k,_⟩=>?_
 refine hw G δ P σ H _ _ s h fun xs δ1 ⟨hz,f,hf,r⟩ J P1 H1 hP s1 hgo hst hyl p hp=>?_
 exact jQ (Q:=fun x H1=>qV i x σ H1 E.nx) s1 hz (fun A i H x hi=>hgo A _ _ i H x hi) (fun A H x=>hst A _ _ H x) (fun A i x H H2 s hi hy=>hyl A _ _ i x H H2 s hi hy) hf (fun v H' s'=>k _ r _ H' ((s'.sub (P':=(.lst (xs.filterMap f),v) :: P) fun q hq=>by
  rcases List.mem_cons.mp hq with rfl | hq
  ·simp
  ·exact List.mem_cons_of_mem _ (hP q hq)).set (by simp) fun p hp=>by simp [hp])) p hp
section
variable {X:Cx} {tg e:Expr} {te:TDE}
def iSeq (K:PySem.W.Frag) (tl:TE):TI:=fun σ H R=>tl σ H fun x H1=>(∃ a,x=.ref a∧(∃ xs,SqL K H1 a xs)∧R (Itl K a) H1)∨∃ a,x=.ref a∧(∃ xs,SqT K H1 a xs)∧R (Itt K a) H1
theorem At {l:Expr} {tl:TE} (hl:PE X l tl):PI X tg l (iSeq X.K tl):=by
 intro pins s σ H R I h
 refine thn (hl pins s σ H _ I h) fun v s1 ⟨x,H1,I1,r1,q1⟩=>?_
 rcases q1 with ⟨a,e,⟨xs,hq⟩,q⟩ | ⟨a,e,⟨xs,hq⟩,q⟩
 ·subst e
  cases r1
  obtain ⟨its,rv,p,hz⟩:=I1.list hq
  refine wpAny_pyIter_list p.isList ?_
  refine⟨s1.heap.objs.size,[s1.heap.objs.size],_,_,H1,rfl,I1.kept (t':=s1.toks) fun b o e=>Heap.get?_push_of_some _ e,kF a _,⟨_,Heap.get?_push_size _ rfl,rfl,rfl⟩,fun b hb=>?_,q⟩
  have e:b=s1.heap.objs.size:=by simpa using hb
  subst e
  exact I1.fpOk (Nat.le_refl _) (I1.hok.fresh (Nat.le_refl _))
 ·subst e
  cases r1
  obtain ⟨its,rv,p,hz⟩:=I1.tuple hq
  refine wpAny_pyIter_tuple p ?_
  refine⟨s1.heap.objs.size,[s1.heap.objs.size],_,_,H1,rfl,I1.kept (t':=s1.toks) fun b o e=>Heap.get?_push_of_some _ e,iW a _,⟨_,Heap.get?_push_size _ rfl,rfl,rfl⟩,fun b hb=>?_,q⟩
  have e:b=s1.heap.objs.size:=by simpa using hb
  subst e
  exact I1.fpOk (Nat.le_refl _) (I1.hok.fresh (Nat.le_refl _))
def dcSq (t:TDE):TDC:=fun δ R=>t δ (wd fun d δ1=>∃ k xs,d=sq k xs∧R xs δ1)
theorem Bp (h:DE X e te):CI X tg e (dcSq te):=⟨_,At h,fun G δ P σ H R Q s hs k=>up.mk s hs fun d δ1 h1 v H1 s1=>by
 obtain ⟨kk,xs,e,r⟩:=h1
 subst e
 have hat:∀ A δ σ H,Sx X.K G A δ ((sq kk xs,v) :: P) σ H→∃ a vs,v=.ref a∧SqV kk X.K H a vs∧Reps X.K (fun b=>G.M0 b∨A b) H xs vs:=fun A δ σ H x=>rY (x.pnd (sq kk xs,v) (by simp))
 obtain ⟨A1,x1⟩:=id s1
 obtain ⟨a,vs0,rfl,l0,_⟩:=hat _ _ _ _ x1
 cases kk
 ·refine .inr ⟨a,rfl,⟨vs0,l0⟩,k xs δ1 r _ _ H1 (fun q hq=>by simp [hq]) s1 (fun A δ σ i H x hi=>?_) (fun A δ σ H x=>?_) fun A δ σ i y H H2 x hi hy=>?_⟩
  ·obtain ⟨b,vs,e,l,r⟩:=hat _ _ _ _ x
   cases e
   obtain ⟨w',hw,_⟩:=Reps.get _ _ r i xs[i] (by simp [hi])
   exact⟨vs,w',l,hw⟩
  ·obtain ⟨b,vs,e,l,r⟩:=hat _ _ _ _ x
   cases e
   exact⟨vs,l,by rw [Reps.length _ _ r];exact Nat.le_refl _⟩
  ·obtain ⟨b,vs,e,l,r⟩:=hat _ _ _ _ x
   cases e
   obtain ⟨e,hy⟩:=hy
   obtain ⟨w',hw,rw'⟩:=Reps.get _ _ r i xs[i] (by simp [hi])
   have z:=hy vs l
   rw [hw] at z
   cases z
   subst e
   exact⟨Same.refl _,xs[i],by simp [hi],rw'⟩
 ·refine .inl ⟨a,rfl,⟨vs0,l0⟩,k xs δ1 r _ _ H1 (fun q hq=>by simp [hq]) s1 (fun A δ σ i H x hi=>?_) (fun A δ σ H x=>?_) fun A δ σ i y H H2 x hi hy=>?_⟩
  ·obtain ⟨b,vs,e,l,r⟩:=hat _ _ _ _ x
   cases e
   obtain ⟨w',hw,_⟩:=Reps.get _ _ r i xs[i] (by simp [hi])
   exact⟨vs,w',l,hw⟩
  ·obtain ⟨b,vs,e,l,r⟩:=hat _ _ _ _ x
   cases e
   exact⟨vs,l,by rw [Reps.length _ _ r];exact Nat.le_refl _⟩
  ·obtain ⟨b,vs,e,l,r⟩:=hat _ _ _ _ x
   cases e
   obtain ⟨e,hy⟩:=hy
   obtain ⟨w',hw,rw'⟩:=Reps.get _ _ r i xs[i] (by simp [hi])
   have z:=hy vs l
   rw [hw] at z
   cases z
   subst e
   exact⟨Same.refl _,xs[i],by simp [hi],rw'⟩⟩
end
end DL
namespace DL
open PySem PySem.Spec PyProof.Rows L2
def yu (i:Nat) (f:List D→(D→Prop)→Prop) (ta:TDE):TDE:=fun δ R=>∃ a d0,δ[i]?=some (.own a d0)∧ta δ (wd fun z δ1=>∃ d,δ1[i]?=some (.own a d)∧f [d,z] fun r=>r.im=true∧R (.d r) δ1)
theorem xG {X:Cx} {b:Expr} {tb:TDE} {f:List D→(D→Prop)→Prop} {x y:Str} {k:Nat} {ps:List Str} {p p2 pos:Pos} (i:Nat) (C:Cal X.prog X.w X.K X.mg X.base k x ps (spD X.K f)) (hr:Room k X.A) (hg:Gl X x) (hb:DE X b tb) (hN:X.N[i]?=some y:=by rfl)
  (hv:Vis X.env.scope y:=by walk_at "v3") (hd:(y == ("__debug__":Str))=false:=by decide) (hcd:(y == ("__classdict__":Str))=false:=by decide)
  (hdb:(x == ("__debug__":Str))=false:=by decide) (he:starEach [.Name y p2,b] X.env=(false,eval (.Name y p2) X.env) :: starEach [b] X.env:=by rfl) (he1:starEach [b] X.env=(false,eval b X.env) :: starEach [] X.env:=by rfl)
  (hpl:(backTo pos (starEach [b] X.env)).any (·.1)=false:=by rfl) :
  DE X (.Call (.Name x p) [.Name y p2,b] [] pos) (yu i f tb):=by
 obtain ⟨g,fd,F,b',kp,m⟩:=C.ex
 refine PE.imp (jg F hr hg m kp b' .nil tR (ba (cE hN hv hd hcd) (ba hb dy he1) he) hdb he hpl) fun σ H Q ⟨G,δ,P,R,s,⟨a0,d00,hi0,h⟩,k,_⟩=>⟨.ref a0,s.own hi0,up.mk s h fun z δ1 ⟨d0,hi,hf⟩ v H1 s1=>?_⟩
 show aS X.K f ([.ref a0,v]++[]) H1 Q
 rw [List.append_nil]
 obtain ⟨A,q⟩:=s1
 obtain ⟨_,aa,oo⟩:=q.own i a0 d0 hi
 have hM:∀ b,((G.M0 b∨A b)∧b≠a0)→(G.M0 b∨A b)∨H1 b=none:=fun b h=>.inl h.1
 refine⟨fun b=>(G.M0 b∨A b)∧b≠a0,[d0,z],fun r=>r.im=true∧R (.d r) δ1,fun b h=>q.mem b h.1,Reps.cons (oo.rep (fun z=>z.2 rfl) fun b z=>z.1) (Reps.one (Rep.more hM _ _ (q.pnd (z,v) (by simp)))),hf,fun r ⟨im,hr⟩ u H' sm rp=>?_⟩
 exact k r δ1 hr u H' ⟨A,((q.same sm).sub (P':=P) fun p hp=>by simp [hp]).push (Rep.im _ _ im rp)⟩
end DL
namespace DL
open PySem PySem.Spec PyProof.Rows L2
section
variable {X:Cx} {pos:Pos} {a b e:Expr} {ta tb:TDE}
end
section
variable {K:PySem.W.Frag} {G:Gf} {A A':Addr→Prop} {δ δ':List Sl} {P P':List (D×V)} {σ σ':L2.St} {H H':Hp} {p:Addr}
end
section
variable {X:Cx} {pos:Pos} {a b e:Expr} {ta tb:TDE}
def y7 (i:Nat) (k l:Str) (ta tb:TDE):TDS:=fun R δ=>ta δ (wd fun x δ1=>tb δ1 (wd fun y δ2=>k≠l∧∀ a,R.nx (δ2.set i (.own a (.dct [k,l] [x,y])))))
end
end DL
namespace DL
open PySem PySem.Spec PyProof.Rows L2
theorem FdK.fd {K:PySem.W.Frag} {x:Str} {st:Stmt} {h:Heap} {mg:Str→Option Value} {ps:List Str} (q:FdK K x st) (X:K.In h) (G:h.Ns mainGlobals mg)
  (b:∀ (kV doc pm:Value) (an:Option Addr) (cdv ct:Value) (us:List Value),us.length=ps.length→bindArgs (PySem.W.fnOf x x (ce st) (a9 st) (ak st) .none kV doc pm an cdv ct) ⟨us,[]⟩=pure (ps.zip us)):Fd K mg x st ps:=by
 obtain ⟨f,oc,od,an,sl,kV,dc,pm,cd,ct,a,l,c,k⟩:=q.ex
 have F:=vf (st:=st) l c k
 exact⟨_,_,F,F.binds (ps:=ps) b,PySem.W.mg_of X G a⟩
theorem FdK.fd1 {K:PySem.W.Frag} {x x1:Str} {st:Stmt} {h:Heap} {mg:Str→Option Value} (q:FdK K x st) (X:K.In h) (G:h.Ns mainGlobals mg)
  (b:∀ (kV doc pm:Value) (an:Option Addr) (cdv ct u1:Value),bindArgs (PySem.W.fnOf x x (ce st) (a9 st) (ak st) .none kV doc pm an cdv ct) ⟨[u1],[]⟩=pure [(x1,u1)]):Fd K mg x st [x1] :=
 q.fd X G fun kV doc pm an cdv ct us hl=>match us,hl with
  | [u1],_=>b kV doc pm an cdv ct u1
theorem FdK.fd2 {K:PySem.W.Frag} {x x1 x2:Str} {st:Stmt} {h:Heap} {mg:Str→Option Value} (q:FdK K x st) (X:K.In h) (G:h.Ns mainGlobals mg)
  (b:∀ (kV doc pm:Value) (an:Option Addr) (cdv ct u1 u2:Value),bindArgs (PySem.W.fnOf x x (ce st) (a9 st) (ak st) .none kV doc pm an cdv ct) ⟨[u1,u2],[]⟩=pure [(x1,u1),(x2,u2)]):Fd K mg x st [x1,x2] :=
 q.fd X G fun kV doc pm an cdv ct us hl=>match us,hl with
  | [u1,u2],_=>b kV doc pm an cdv ct u1 u2
theorem FdK.fd3 {K:PySem.W.Frag} {x x1 x2 x3:Str} {st:Stmt} {h:Heap} {mg:Str→Option Value} (q:FdK K x st) (X:K.In h) (G:h.Ns mainGlobals mg)
  (b:∀ (kV doc pm:Value) (an:Option Addr) (cdv ct u1 u2 u3:Value),bindArgs (PySem.W.fnOf x x (ce st) (a9 st) (ak st) .none kV doc pm an cdv ct) ⟨[u1,u2,u3],[]⟩=pure [(x1,u1),(x2,u2),(x3,u3)]):Fd K mg x st [x1,x2,x3] :=
 q.fd X G fun kV doc pm an cdv ct us hl=>match us,hl with
  | [u1,u2,u3],_=>b kV doc pm an cdv ct u1 u2 u3
theorem FdK.fd4 {K:PySem.W.Frag} {x x1 x2 x3 x4:Str} {st:Stmt} {h:Heap} {mg:Str→Option Value} (q:FdK K x st) (X:K.In h) (G:h.Ns mainGlobals mg)
  (b:∀ (kV doc pm:Value) (an:Option Addr) (cdv ct u1 u2 u3 u4:Value),bindArgs (PySem.W.fnOf x x (ce st) (a9 st) (ak st) .none kV doc pm an cdv ct) ⟨[u1,u2,u3,u4],[]⟩=pure [(x1,u1),(x2,u2),(x3,u3),(x4,u4)]):Fd K mg x st [x1,x2,x3,x4] :=
 q.fd X G fun kV doc pm an cdv ct us hl=>match us,hl with
  | [u1,u2,u3,u4],_=>b kV doc pm an cdv ct u1 u2 u3 u4
theorem rm {j k:Nat} {A:Around} (h:Room k A) (e:j≤k:=by decide):Room j A:=h.mono e
end DL
namespace Mf
abbrev V:=Nat→Rat
def dot:Nat→V→V→Rat
 | 0,_,_=>0
 | m + 1,c,w=>dot m c w + c m * w m
theorem dr (c u v:V) (a b:Rat):∀ m,dot m c (fun i=>a * u i + b * v i)=a * dot m c u + b * dot m c v
 | 0=>by show (0:Rat)=a * 0 + b * 0;grind
 | m + 1=>by show dot m c _ + _=a * (dot m c u + _) + b * (dot m c v + _);rw [dr c u v a b m];grind
theorem mR (e c w:V) (a b:Rat):∀ m,dot m (fun i=>a * e i + b * c i) w=a * dot m e w + b * dot m c w
 | 0=>by show (0:Rat)=a * 0 + b * 0;grind
 | m + 1=>by show dot m _ w + _=a * (dot m e w + _) + b * (dot m c w + _);rw [mR e c w a b m];grind
theorem gB {c w w':V}:∀ {m},(∀ i,i < m→w i=w' i)→dot m c w=dot m c w'
 | 0,_=>rfl
 | m + 1,h=>by show dot m c w + _=dot m c w' + _;rw [gB fun i hi=>h i (by omega),h m (by omega)]
def sz (m:Nat) (w:V):Nat:=((List.range m).filter fun i=>decide (w i≠0)).length
theorem eW (m:Nat) (w:V):sz (m + 1) w=sz m w + if w m=0 then 0 else 1:=by
 unfold sz
 rw [List.range_succ,List.filter_append,List.length_append]
 by_cases h:w m=0<;>simp [h]
theorem tK {w w':V}:∀ (m:Nat),(∀ i,i < m→w' i≠0→w i≠0)→sz m w'≤sz m w
 | 0,_=>Nat.le_refl _
 | m + 1,h=>by
  rw [eW,eW]
  have:=tK m fun i hi=>h i (by omega)
  have:=h m (by omega)
  grind
theorem xm {w w':V} {q:Nat}:∀ (m:Nat),(∀ i,i < m→w' i≠0→w i≠0)→q < m→w q≠0→w' q=0→sz m w' < sz m w
 | 0,_,hq,_,_=>by omega
 | m + 1,h,hq,h1,h2=>by
  rw [eW,eW]
  have h3:=tK m fun i hi=>h i (by omega)
  have h4:=h m (by omega)
  by_cases e:q=m
  ·subst e;grind
  ·have:=xm m (fun i hi=>h i (by omega)) (by omega) h1 h2
   grind
variable {m:Nat} {st:Nat→Bool}
def sat (m:Nat) (st:Nat→Bool) (e w:V):Prop:=0 < dot m e w∨(dot m e w=0∧∀ i,i < m→0 < w i→st i=false)
theorem jo {e u v:V} {a b:Rat} (hu:sat m st e u) (hv:sat m st e v) (ha:0≤a) (hb:0≤b):sat m st e (fun i=>a * u i + b * v i):=by
 unfold sat
 rw [dr]
 have hu0:0≤dot m e u:=by rcases hu with h | h<;>grind
 have hv0:0≤dot m e v:=by rcases hv with h | h<;>grind
 have h1:=Rat.mul_nonneg ha hu0
 have h2:=Rat.mul_nonneg hb hv0
 by_cases z:0 < a * dot m e u + b * dot m e v
 ·exact .inl z
 ·refine .inr ⟨by grind,fun i hi hw=>?_⟩
  have e1:a * dot m e u=0:=by grind
  have e2:b * dot m e v=0:=by grind
  have pos:0 < a * u i∨0 < b * v i:=by grind
  rcases pos with p | p
  ·have ha':0 < a:=by
    refine Classical.byContradiction fun z=>?_
    have:a=0:=by grind
    rw [this] at p;grind
   have hu':0 < u i:=by
    refine Classical.byContradiction fun z=>?_
    have:=Rat.mul_nonneg ha (b:=- u i) (by grind)
    grind
   rcases hu with h | h
   ·have:=Rat.mul_pos ha' h;grind
   ·exact h.2 i hi hu'
  ·have hb':0 < b:=by
    refine Classical.byContradiction fun z=>?_
    have:b=0:=by grind
    rw [this] at p;grind
   have hv':0 < v i:=by
    refine Classical.byContradiction fun z=>?_
    have:=Rat.mul_nonneg hb (b:=- v i) (by grind)
    grind
   rcases hv with h | h
   ·have:=Rat.mul_pos hb' h;grind
   ·exact h.2 i hi hv'
theorem dP {e w w':V} (h:∀ i,i < m→w i=w' i) (s:sat m st e w):sat m st e w':=by
 unfold sat at s ⊢
 rw [← gB h]
 exact s.imp id fun ⟨h1,h2⟩=>⟨h1,fun i hi hp=>h2 i hi (by rw [h i hi];exact hp)⟩
theorem ld:∀ (cs:List V) (J:List Nat),J.Nodup→cs.length < J.length→∃ d:V,(∀ i,d i≠0→i∈J)∧(∃ i,d i≠0)∧∀ c∈cs,dot m c d=0
 | [],J,nd,h=>by
  cases J with
  | nil=>simp at h
  | cons j J=>exact⟨fun i=>if i=j then 1 else 0,fun i hi=>by by_cases e:i=j<;>simp_all,⟨j,by simp⟩,fun c hc=>nomatch hc⟩
 | c :: cs,J,nd,h=>by
  cases J with
  | nil=>simp at h
  | cons j J =>
   have h:cs.length + 1 < J.length + 1:=h
   obtain ⟨nj,ndJ⟩:=List.nodup_cons.mp nd
   obtain ⟨d1,a1,⟨i,hi⟩,b1⟩:=ld cs J ndJ (by omega)
   have him:=a1 i hi
   obtain ⟨d2,a2,⟨k,hk⟩,b2⟩:=ld cs ((j :: J).erase i) (nd.erase i) (by rw [List.length_erase_of_mem (List.mem_cons_of_mem _ him)];simpa using by omega)
   have hd2i:d2 i=0:=Classical.byContradiction fun z=>((nd.mem_erase_iff).mp (a2 i z)).1 rfl
   by_cases e:dot m c d2=0
   ·refine⟨d2,fun i hi=>List.mem_of_mem_erase (a2 i hi),⟨k,hk⟩,fun c' hc'=>?_⟩
    rcases List.mem_cons.mp hc' with rfl | hc'
    ·exact e
    ·exact b2 c' hc'
   ·refine⟨fun i=>dot m c d2 * d1 i + (- dot m c d1) * d2 i,fun x hx=>?_,⟨i,?_⟩,fun c' hc'=>?_⟩
    ·by_cases z1:d1 x=0
     ·by_cases z2:d2 x=0
      ·refine absurd ?_ hx;show _ * d1 x + _ * d2 x=0;rw [z1,z2];grind
      ·exact List.mem_of_mem_erase (a2 x z2)
     ·exact List.mem_cons_of_mem _ (a1 x z1)
    ·show _ * d1 i + _ * d2 i≠0
     rw [hd2i]
     intro z
     have:dot m c d2 * d1 i=0:=by grind
     rcases Rat.mul_eq_zero.mp this with q | q
     ·exact e q
     ·exact hi q
    ·rw [dr]
     rcases List.mem_cons.mp hc' with rfl | hc'
     ·grind
     ·rw [b1 c' hc',b2 c' hc'];grind
theorem xD {w d:V} (hw:∀ i,0≤w i) (hd:∀ i,d i≠0→0 < w i):∀ (J:List Nat),(∃ i∈J,0 < d i)→∃ t,0 < t∧(∀ i∈J,0≤w i - t * d i)∧∃ q∈J,0 < d q∧w q - t * d q=0
 | [],⟨i,hi,_⟩=>nomatch hi
 | j :: J,h=>by
  have one:∀ i,0 < d i→0 < w i / d i∧w i - (w i / d i) * d i=0:=fun i hi=>by
   have hwi:=hd i (by grind)
   exact⟨by rw [Rat.lt_div_iff hi];grind,by grind⟩
  by_cases hJ:∃ i∈J,0 < d i
  ·obtain ⟨t,t0,h1,q,hq,dq,eq⟩:=xD hw hd J hJ
   by_cases hj:0≤w j - t * d j
   ·refine⟨t,t0,fun i hi=>?_,q,List.mem_cons_of_mem _ hq,dq,eq⟩
    rcases List.mem_cons.mp hi with rfl | hi
    ·exact hj
    ·exact h1 i hi
   ·have dj:0 < d j:=by
     refine Classical.byContradiction fun z=>hj ?_
     have:=Rat.mul_nonneg (a:=t) (b:=- d j) (by grind) (by grind)
     have:=hw j
     grind
    obtain ⟨o1,o2⟩:=one j dj
    have lt:w j / d j < t:=by
     refine Classical.byContradiction fun z=>hj ?_
     have:=Rat.mul_nonneg (a:=w j / d j - t) (b:=d j) (by grind) (by grind)
     grind
    refine⟨w j / d j,o1,fun i hi=>?_,j,List.mem_cons_self ..,dj,o2⟩
    rcases List.mem_cons.mp hi with rfl | hi
    ·grind
    ·by_cases di:0 < d i
     ·have:=h1 i hi
      have:=Rat.mul_nonneg (a:=t - w j / d j) (b:=d i) (by grind) (by grind)
      grind
     ·have:=Rat.mul_nonneg (a:=w j / d j) (b:=- d i) (by grind) (by grind)
      have:=hw i
      grind
  ·have dj:0 < d j:=by
    obtain ⟨i,hi,p⟩:=h
    rcases List.mem_cons.mp hi with rfl | hi
    ·exact p
    ·exact absurd ⟨i,hi,p⟩ hJ
   obtain ⟨o1,o2⟩:=one j dj
   refine⟨w j / d j,o1,fun i hi=>?_,j,List.mem_cons_self ..,dj,o2⟩
   rcases List.mem_cons.mp hi with rfl | hi
   ·grind
   ·have di:¬ 0 < d i:=fun p=>hJ ⟨i,hi,p⟩
    have:=Rat.mul_nonneg (a:=w j / d j) (b:=- d i) (by grind) (by grind)
    have:=hw i
    grind
structure Nn (m:Nat) (w:V):Prop where
 pos:∀ i,0≤w i
 top:∀ i,m≤i→w i=0
structure Sub (m:Nat) (cs:List V) (w u:V):Prop where
 nn:Nn m u
 an:∀ c∈cs,dot m c u=0
 su:∀ i,u i≠0→w i≠0
 lt:sz m u < sz m w
theorem zI {cs:List V} {w d:V} {p:Nat} (hw:Nn m w) (ha:∀ c∈cs,dot m c w=0) (hd:∀ i,d i≠0→w i≠0) (da:∀ c∈cs,dot m c d=0) (hp:w p≠0) (dp:d p=0) (h:∃ i,0 < d i) :
  ∃ u v a b,0≤a∧0≤b∧(∀ i,w i=a * u i + b * v i)∧Sub m cs w u∧Sub m cs w v:=by
 have lt:∀ {i},w i≠0→i < m:=fun {i} h=>Classical.byContradiction fun z=>h (hw.top i (by omega))
 have pos:∀ {i},w i≠0→0 < w i:=fun {i} h=>by have:=hw.pos i;grind
 have mk:∀ {x:V} {a b:Rat},0≤a→(∀ i,x i=a * w i + b * d i)→(∀ i,i < m→0≤x i)→(∃ q,w q≠0∧x q=0)→Sub m cs w x:=fun {x a b} ha0 hx h0 ⟨q,hq,xq⟩=>by
  have su:∀ i,x i≠0→w i≠0:=fun i hi z=>hi (by
   have:d i=0:=Classical.byContradiction fun y=>hd i y z
   rw [hx i,z,this];grind)
  refine⟨⟨fun i=>?_,fun i hi=>Classical.byContradiction fun z=>su i z (hw.top i hi)⟩,fun c hc=>?_,su,xm m (fun i _=>su i) (lt hq) hq xq⟩
  ·by_cases hi:i < m
   ·exact h0 i hi
   ·have:x i=0:=Classical.byContradiction fun z=>su i z (hw.top i (by omega))
    rw [this];exact Rat.le_refl
  ·have:x=fun i=>a * w i + b * d i:=funext hx
   rw [this,dr,ha c hc,da c hc];grind
 have hr:∀ {i},d i≠0→i∈List.range m:=fun {i} h=>List.mem_range.mpr (lt (hd i h))
 obtain ⟨i,hi⟩:=h
 obtain ⟨t,t0,h1,q,hq,dq,eq⟩:=xD hw.pos (fun i h=>pos (hd i h)) (List.range m) ⟨i,hr (by grind),hi⟩
 have s1:Sub m cs w (fun i=>w i - t * d i):=mk (a:=1) (b:=-t) (by grind) (fun i=>by grind) (fun i hi=>h1 i (List.mem_range.mpr hi)) ⟨q,hd q (by grind),eq⟩
 by_cases hn:∃ i,0 < - d i
 ·obtain ⟨k,hk⟩:=hn
  obtain ⟨t',t0',h1',q',hq',dq',eq'⟩:=xD (d:=fun i=>- d i) hw.pos (fun i h=>pos (hd i (by grind))) (List.range m) ⟨k,hr (by grind),hk⟩
  have s2:Sub m cs w (fun i=>w i - t' * - d i):=mk (a:=1) (b:=t') (by grind) (fun i=>by grind) (fun i hi=>h1' i (List.mem_range.mpr hi)) ⟨q',hd q' (by grind),eq'⟩
  have tt:t + t'≠0:=by grind
  have e1:0 < t' / (t + t'):=by rw [Rat.lt_div_iff (by grind)];grind
  have e2:0 < t / (t + t'):=by rw [Rat.lt_div_iff (by grind)];grind
  refine⟨_,_,t' / (t + t'),t / (t + t'),by grind,by grind,fun i=>?_,s1,s2⟩
  have e3:t' / (t + t') + t / (t + t')=1:=by grind
  have e4:t' / (t + t') * t=t / (t + t') * t':=by grind
  grind
 ·have s2:Sub m cs w d:=mk (a:=0) (b:=1) (by grind) (fun i=>by grind) (fun i hi=>Classical.byContradiction fun z=>hn ⟨i,by grind⟩) ⟨p,hp,dp⟩
  exact⟨_,_,1,t,by grind,by grind,fun i=>by grind,s1,s2⟩
theorem split {cs:List V} {w:V} (hw:Nn m w) (ha:∀ c∈cs,dot m c w=0) (hz:cs.length + 1 < sz m w) :
  ∃ u v a b,0≤a∧0≤b∧(∀ i,w i=a * u i + b * v i)∧Sub m cs w u∧Sub m cs w v:=by
 have mem:∀ {i},i∈(List.range m).filter (fun i=>decide (w i≠0))↔i < m∧w i≠0:=by simp
 have nd:((List.range m).filter (fun i=>decide (w i≠0))).Nodup:=List.nodup_range.filter _
 unfold sz at hz
 generalize hJ:(List.range m).filter (fun i=>decide (w i≠0))=J at mem nd hz
 cases J with
 | nil=>simp at hz
 | cons p J =>
  obtain ⟨np,ndJ⟩:=List.nodup_cons.mp nd
  obtain ⟨d,h1,⟨i,hi⟩,h3⟩:=ld (m:=m) cs J ndJ (by simpa using hz)
  have hd:∀ i,d i≠0→w i≠0:=fun i h=>(mem.mp (List.mem_cons_of_mem _ (h1 i h))).2
  have dp:d p=0:=Classical.byContradiction fun z=>np (h1 p z)
  have hp:=(mem.mp (List.mem_cons_self ..:p∈p :: J)).2
  by_cases s:0 < d i
  ·exact zI hw ha hd h3 hp dp ⟨i,s⟩
  ·have e:(fun i=>- d i)=fun i=>(-1) * d i + 0 * d i:=by funext i;grind
   exact zI (d:=fun i=>- d i) hw ha (fun i h=>hd i (by grind)) (fun c hc=>by rw [e,dr,h3 c hc];grind) hp (by rw [dp];grind) ⟨i,by grind⟩
def sat1 (v:Rat) (x:Rat×Rat×Bool):Prop:=0 < x.1 + v * x.2.1∨(x.1 + v * x.2.1=0∧x.2.2=false)
theorem maxL:∀ (l:List (Rat×Bool)),l≠[]→∃ x∈l,∀ y∈l,y.1 < x.1∨(y.1=x.1∧(y.2=true→x.2=true))
 | [],h=>absurd rfl h
 | z :: l,_=>by
  by_cases hl:l=[]
  ·subst hl
   exact⟨z,List.mem_cons_self ..,fun y hy=>by rcases List.mem_cons.mp hy with rfl | h;exact .inr ⟨rfl,id⟩;cases h⟩
  ·obtain ⟨x,hx,h⟩:=maxL l hl
   by_cases c:z.1 < x.1∨(z.1=x.1∧(z.2=true→x.2=true))
   ·refine⟨x,List.mem_cons_of_mem _ hx,fun y hy=>?_⟩
    rcases List.mem_cons.mp hy with rfl | hy
    ·exact c
    ·exact h y hy
   ·refine⟨z,List.mem_cons_self ..,fun y hy=>?_⟩
    rcases List.mem_cons.mp hy with rfl | hy
    ·exact .inr ⟨rfl,id⟩
    ·have:=h y hy
     cases hz2:z.2<;>cases hx2:x.2<;>grind
theorem zB (L:List (Rat×Rat×Bool)) (hz:∀ x∈L,x.2.1=0→sat1 0 x)
  (hp:∀ l∈L,∀ h∈L,0 < l.2.1→h.2.1 < 0→0 < l.1 * (- h.2.1) + h.1 * l.2.1∨(l.1 * (- h.2.1) + h.1 * l.2.1=0∧l.2.2=false∧h.2.2=false)):∃ v,∀ x∈L,sat1 v x:=by
 have low:(∀ x∈L,¬ 0 < x.2.1)∨∃ l∈L,0 < l.2.1∧∀ x∈L,0 < x.2.1→-x.1 / x.2.1 < -l.1 / l.2.1∨(-x.1 / x.2.1=-l.1 / l.2.1∧(x.2.2=true→l.2.2=true)):=by
  by_cases h:(L.filter fun x=>decide (0 < x.2.1)).map (fun x=>(-x.1 / x.2.1,x.2.2))=[]
  ·refine .inl fun x hx hp=>?_
   rw [List.map_eq_nil_iff,List.filter_eq_nil_iff] at h
   exact h x hx (by simpa using hp)
  ·obtain ⟨y,hy,h⟩:=maxL _ h
   obtain ⟨l,hl,rfl⟩:=List.mem_map.mp hy
   obtain ⟨hl,hl2⟩:=List.mem_filter.mp hl
   exact .inr ⟨l,hl,by simpa using hl2,fun x hx hp=>h _ (List.mem_map.mpr ⟨x,List.mem_filter.mpr ⟨hx,by simpa using hp⟩,rfl⟩)⟩
 have high:(∀ x∈L,¬ x.2.1 < 0)∨∃ l∈L,l.2.1 < 0∧∀ x∈L,x.2.1 < 0→x.1 / x.2.1 < l.1 / l.2.1∨(x.1 / x.2.1=l.1 / l.2.1∧(x.2.2=true→l.2.2=true)):=by
  by_cases h:(L.filter fun x=>decide (x.2.1 < 0)).map (fun x=>(x.1 / x.2.1,x.2.2))=[]
  ·refine .inl fun x hx hp=>?_
   rw [List.map_eq_nil_iff,List.filter_eq_nil_iff] at h
   exact h x hx (by simpa using hp)
  ·obtain ⟨y,hy,h⟩:=maxL _ h
   obtain ⟨l,hl,rfl⟩:=List.mem_map.mp hy
   obtain ⟨hl,hl2⟩:=List.mem_filter.mp hl
   exact .inr ⟨l,hl,by simpa using hl2,fun x hx hp=>h _ (List.mem_map.mpr ⟨x,List.mem_filter.mpr ⟨hx,by simpa using hp⟩,rfl⟩)⟩
 have lo:∀ (x:Rat×Rat×Bool) (v:Rat),0 < x.2.1→(-x.1 / x.2.1 < v∨(-x.1 / x.2.1=v∧x.2.2=false))→sat1 v x:=fun x v hc h=>by
  have e:x.1=-((-x.1 / x.2.1) * x.2.1):=by grind
  rcases h with h | h
  ·have:=Rat.mul_pos (a:=v - (-x.1 / x.2.1)) (b:=x.2.1) (by grind) hc
   exact .inl (by grind)
  ·exact .inr ⟨by grind,h.2⟩
 have hi:∀ (x:Rat×Rat×Bool) (v:Rat),x.2.1 < 0→(x.1 / x.2.1 < -v∨(x.1 / x.2.1=-v∧x.2.2=false))→sat1 v x:=fun x v hc h=>by
  have e:x.1=(x.1 / x.2.1) * x.2.1:=by grind
  rcases h with h | h
  ·have:=Rat.mul_pos (a:=-v - (x.1 / x.2.1)) (b:=-x.2.1) (by grind) (by grind)
   exact .inl (by grind)
  ·exact .inr ⟨by grind,h.2⟩
 have ze:∀ (x:Rat×Rat×Bool) (v:Rat),x∈L→x.2.1=0→sat1 v x:=fun x v hx h=>by
  have:=hz x hx h
  unfold sat1 at this ⊢
  rw [h] at this ⊢
  grind
 have done:∀ v,(∀ x∈L,0 < x.2.1→sat1 v x)→(∀ x∈L,x.2.1 < 0→sat1 v x)→∃ v,∀ x∈L,sat1 v x:=fun v h1 h2=>⟨v,fun x hx=>by
  rcases (by grind:x.2.1 < 0∨x.2.1=0∨0 < x.2.1) with c | c | c
  ·exact h2 x hx c
  ·exact ze x v hx c
  ·exact h1 x hx c⟩
 rcases low with nl | ⟨l,hl,cl,tl⟩
 ·rcases high with nh | ⟨k,hk,ck,tk⟩
  ·exact done 0 (fun x hx h=>absurd h (nl x hx)) fun x hx h=>absurd h (nh x hx)
  ·exact done (-(k.1 / k.2.1) - 1) (fun x hx h=>absurd h (nl x hx)) fun x hx h=>hi x _ h (.inl (by have:=tk x hx h;grind))
 ·rcases high with nh | ⟨k,hk,ck,tk⟩
  ·exact done (-l.1 / l.2.1 + 1) (fun x hx h=>lo x _ h (.inl (by have:=tl x hx h;grind))) fun x hx h=>absurd h (nh x hx)
  ·have pr:=hp l hl k hk cl ck
   have e1:l.1=-((-l.1 / l.2.1) * l.2.1):=by grind
   have e2:k.1=(k.1 / k.2.1) * k.2.1:=by grind
   generalize hA:-l.1 / l.2.1=A at *
   generalize hB:k.1 / k.2.1=B at *
   have pr2:A < -B∨(A=-B∧l.2.2=false∧k.2.2=false):=by
    have e3:l.1 * (-k.2.1) + k.1 * l.2.1=(-B - A) * (l.2.1 * (-k.2.1)):=by grind
    have pp:=Rat.mul_pos (a:=l.2.1) (b:=-k.2.1) cl (by grind)
    rw [e3] at pr
    rcases pr with p | p
    ·refine .inl (Classical.byContradiction fun z=>?_)
     have:=Rat.mul_nonneg (a:=A + B) (b:=l.2.1 * -k.2.1) (by grind) (by grind)
     grind
    ·rcases Rat.mul_eq_zero.mp p.1 with q | q
     ·exact .inr ⟨by grind,p.2⟩
     ·grind
   refine done ((A - B) / 2) (fun x hx h=>lo x _ h ?_) fun x hx h=>hi x _ h ?_
   ·have:=tl x hx h
    cases hx2:x.2.2<;>cases hl2:l.2.2<;>grind
   ·have:=tk x hx h
    cases hx2:x.2.2<;>cases hk2:k.2.2<;>grind
def Comp (m:Nat) (st:Nat→Bool) (cs:List V) (S:List V):Prop:=∀ (I:Nat→Prop) (e:V),(∀ s∈S,(∀ i,s i≠0→I i)→sat m st e s)→∀ w,Nn m w→(∀ c∈cs,dot m c w=0)→(∀ i,w i≠0→I i)→sat m st e w
def unit (j:Nat):V:=fun i=>if i=j then 1 else 0
theorem nc {e w:V} (h:∀ i,i < m→w i=0):sat m st e w:=by
 have:dot m e w=0:=by
  rw [gB (w':=fun i=>0 * w i + 0 * w i) fun i hi=>by rw [h i hi];grind,dr];grind
 exact .inr ⟨this,fun i hi hp=>by rw [h i hi] at hp;grind⟩
theorem pI (S:List V) (h:∀ j,j < m→unit j∈S):Comp m st [] S:=by
 intro I e hs w hw _ hI
 have go:∀ k,k≤m→sat m st e (fun i=>if i < k then w i else 0):=fun k=>by
  induction k with
  | zero=>intro _;exact nc fun i _=>by simp
  | succ k ih =>
   intro hk
   have h1:=ih (by omega)
   by_cases z:w k=0
   ·refine dP (fun i hi=>?_) h1
    by_cases e1:i < k
    ·simp [e1,Nat.lt_succ_of_lt e1]
    ·by_cases e2:i=k
     ·subst e2;simp [z]
     ·simp [e1,show ¬ i < k + 1 by omega]
   ·have h2:=hs (unit k) (h k (by omega)) fun i hi=>by
     have:i=k:=Classical.byContradiction fun y=>hi (by simp [unit,y])
     subst this;exact hI i z
    refine dP (fun i hi=>?_) (jo h1 h2 (a:=1) (b:=w k) (by grind) (hw.pos k))
    unfold unit
    by_cases e1:i < k
    ·simp [e1,Nat.lt_succ_of_lt e1,show i≠k by omega];grind
    ·by_cases e2:i=k
     ·subst e2;simp;grind
     ·simp [e1,e2,show ¬ i < k + 1 by omega];grind
 exact dP (fun i hi=>by simp [hi]) (go m (Nat.le_refl m))
structure Kept (m:Nat) (c:V) (most:Nat) (S S':List V):Prop where
 nn:∀ s∈S,Nn m s
 zero:∀ s∈S,dot m c s=0→s∈S'
 cross:∀ l∈S,∀ h∈S,0 < dot m c l→dot m c h < 0→sz m (fun i=>(- dot m c h) * l i + dot m c l * h i)≤most→∃ u∈S',∃ g,0 < g∧∀ i,g * u i=(- dot m c h) * l i + dot m c l * h i
theorem rH (e c w:V) (v:Rat):sat m st (fun i=>1 * e i + v * c i) w↔(0 < dot m e w + v * dot m c w∨(dot m e w + v * dot m c w=0∧∀ i,i < m→0 < w i→st i=false)):=by
 unfold sat
 rw [mR]
 have:1 * dot m e w + v * dot m c w=dot m e w + v * dot m c w:=by grind
 rw [this]
open Classical in
theorem rl {cs S S':List V} {c:V} (k:Comp m st cs S) (h:Kept m c (cs.length + 2) S S'):Comp m st (c :: cs) S':=by
 intro I e hs w hw ha hI
 have main:∀ n w,sz m w≤n→Nn m w→(∀ c'∈c :: cs,dot m c' w=0)→(∀ i,w i≠0→I i)→sat m st e w:=fun n=>by
  induction n with
  | zero =>
   intro w hz hw _ _
   refine nc fun i hi=>byContradiction fun z=>?_
   have:=xm (w:=w) (w':=fun _=>0) m (fun i _ h=>absurd rfl h) hi z rfl
   omega
  | succ n ih =>
   intro w hz hw ha hI
   by_cases big:(c :: cs).length + 1 < sz m w
   ·obtain ⟨u,v,a,b,a0,b0,hwe,su,sv⟩:=split hw ha big
    have h1:=ih u (by have:=su.lt;omega) su.nn su.an fun i hi=>hI i (su.su i hi)
    have h2:=ih v (by have:=sv.lt;omega) sv.nn sv.an fun i hi=>hI i (sv.su i hi)
    exact dP (fun i _=>(hwe i).symm) (jo h1 h2 a0 b0)
   ·have big:sz m w≤cs.length + 2:=by simp at big;omega
    have pr:∀ l∈S,∀ k∈S,(∀ i,l i≠0→w i≠0)→(∀ i,k i≠0→w i≠0)→0 < dot m c l→dot m c k < 0→sat m st e (fun i=>(- dot m c k) * l i + dot m c l * k i):=fun l hl k hk sl sk cl ck=>by
     have su:∀ i,(- dot m c k) * l i + dot m c l * k i≠0→w i≠0:=fun i hi=>by
      by_cases z:l i=0
      ·by_cases y:k i=0
       ·refine absurd ?_ hi;rw [z,y];grind
       ·exact sk i y
      ·exact sl i z
     obtain ⟨u,hu,g,g0,eu⟩:=h.cross l hl k hk cl ck (Nat.le_trans (tK m fun i _=>su i) big)
     have hu2:=hs u hu fun i hi=>hI i (su i (by rw [← eu i];intro z;rcases Rat.mul_eq_zero.mp z with q | q;grind;exact hi q))
     exact dP (fun i _=>by rw [← eu i];grind) (jo hu2 hu2 (a:=g) (b:=0) (by grind) (by grind))
    have od:=zB ((S.filter fun s=>decide (∀ i,s i≠0→w i≠0)).map fun s=>(dot m e s,dot m c s,!decide (∀ i,i < m→0 < s i→st i=false)))
    have od1:=od fun x hx h0=>by
     obtain ⟨s,hs',rfl⟩:=List.mem_map.mp hx
     obtain ⟨hs',hsu⟩:=List.mem_filter.mp hs'
     have:=hs s (h.zero s hs' h0) fun i hi=>hI i ((by simpa using hsu:∀ i,¬ s i=0→¬ w i=0) i hi)
     unfold sat at this
     unfold sat1
     have e0:dot m e s + 0 * dot m c s=dot m e s:=by grind
     simp only [e0]
     simpa using this
    have od2:=od1 fun l hl k hk cl ck=>by
     obtain ⟨l,hl',rfl⟩:=List.mem_map.mp hl
     obtain ⟨k',hk',rfl⟩:=List.mem_map.mp hk
     obtain ⟨hl',hlu⟩:=List.mem_filter.mp hl'
     obtain ⟨hk',hku⟩:=List.mem_filter.mp hk'
     have:=pr l hl' k' hk' (by simpa using hlu) (by simpa using hku) cl ck
     unfold sat at this
     rw [dr] at this
     have e0:(- dot m c k') * dot m e l + dot m c l * dot m e k'=dot m e l * (- dot m c k') + dot m e k' * dot m c l:=by grind
     rw [e0] at this
     refine this.imp id fun ⟨h1,h2⟩=>⟨h1,?_,?_⟩
     ·simp only [Bool.not_eq_false',decide_eq_true_eq]
      intro i hi hp
      refine h2 i hi ?_
      have p1:=Rat.mul_pos (a:=- dot m c k') (b:=l i) (by grind) hp
      have p2:=Rat.mul_nonneg (a:=dot m c l) (b:=k' i) (by grind) ((h.nn k' hk').pos i)
      grind
     ·simp only [Bool.not_eq_false',decide_eq_true_eq]
      intro i hi hp
      refine h2 i hi ?_
      have p1:=Rat.mul_pos (a:=dot m c l) (b:=k' i) cl hp
      have p2:=Rat.mul_nonneg (a:=- dot m c k') (b:=l i) (by grind) ((h.nn l hl').pos i)
      grind
    obtain ⟨v,hv⟩:=od2
    have all:∀ s∈S,(∀ i,s i≠0→w i≠0)→sat m st (fun i=>1 * e i + v * c i) s:=fun s hs' hsu=>by
     have:=hv _ (List.mem_map.mpr ⟨s,List.mem_filter.mpr ⟨hs',by simpa using hsu⟩,rfl⟩)
     rw [rH]
     unfold sat1 at this
     simpa using this
    have:=k (fun i=>w i≠0) _ all w hw (fun c' hc'=>ha c' (List.mem_cons_of_mem _ hc')) fun i hi=>hi
    rw [rH,ha c (List.mem_cons_self ..)] at this
    unfold sat
    have e0:dot m e w + v * 0=dot m e w:=by grind
    rw [e0] at this
    exact this
 exact main _ w (Nat.le_refl _) hw ha hI
end Mf
namespace Mf
open PySem L2 DL
def sumR (x:Str→Rat):List (Str×Int)→Rat
 | []=>0
 | t :: r=>(t.2:Rat) * x t.1 + sumR x r
def soR (x:Str→Rat) (r:Rw):Prop:=match r.1 with
 | .least=>(r.2.2:Rat)≤sumR x r.2.1
 | .more=>(r.2.2:Rat) < sumR x r.2.1
def putR (x:Str→Rat) (n:Str) (v:Rat):Str→Rat:=fun k=>if k=n then v else x k
theorem nq {x:Str→Rat} {n:Str} {v:Rat} (h:x n=0):∀ ts,sumR (putR x n v) ts=sumR x ts + v * (cf ts n:Int)
 | []=>by show (0:Rat)=0 + v * ((0:Int):Rat);rw [show ((0:Int):Rat)=0 from rfl];grind
 | t :: r=>by
  show (t.2:Rat) * putR x n v t.1 + sumR (putR x n v) r=(t.2:Rat) * x t.1 + sumR x r + v * (((if t.1=n then t.2 else 0) + cf r n:Int):Rat)
  rw [nq h r,Rat.intCast_add]
  unfold putR
  by_cases e:t.1=n
  ·rw [if_pos e,if_pos e,e,h];grind
  ·rw [if_neg e,if_neg e,show ((0:Int):Rat)=0 from rfl];grind
def sumN (x:Str→Rat) (F:Str→Int):List Str→Rat
 | []=>0
 | n :: r=>(F n:Rat) * x n + sumN x F r
theorem jO {x:Str→Rat} {F G:Str→Int}:∀ nm:List Str,sumN x (fun n=>F n + G n) nm=sumN x F nm + sumN x G nm
 | []=>by show (0:Rat)=0 + 0;grind
 | n :: r=>by show ((F n + G n:Int):Rat) * x n + _=(F n:Rat) * x n + _ + ((G n:Rat) * x n + _);rw [jO r,Rat.intCast_add];grind
theorem nG {x:Str→Rat} {F:Str→Int} {a:Int}:∀ nm:List Str,sumN x (fun n=>a * F n) nm=a * sumN x F nm
 | []=>by show (0:Rat)=a * 0;grind
 | n :: r=>by show ((a * F n:Int):Rat) * x n + _=a * ((F n:Rat) * x n + _);rw [nG r,Rat.intCast_mul];grind
theorem fC {x:Str→Rat} {F:Str→Int}:∀ {nm:List Str},(∀ n∈nm,F n=0)→sumN x F nm=0
 | [],_=>rfl
 | n :: r,h=>by show (F n:Rat) * x n + _=0;rw [fC fun k hk=>h k (List.mem_cons_of_mem _ hk),h n (List.mem_cons_self ..),show ((0:Int):Rat)=0 from rfl];grind
theorem mU {x:Str→Rat} {k:Str} {a:Int}:∀ {nm:List Str},nm.Nodup→k∈nm→sumN x (fun n=>if k=n then a else 0) nm=a * x k
 | n :: r,nd,h=>by
  obtain ⟨h1,h2⟩:=List.nodup_cons.mp nd
  show ((if k=n then a else 0:Int):Rat) * x n + sumN x _ r=_
  by_cases e:k=n
  ·subst e
   rw [if_pos rfl,fC (F:=fun n=>if k=n then a else 0) fun m hm=>if_neg fun (z:k=m)=>h1 (z ▸ hm)];grind
  ·rw [if_neg e,mU h2 ((List.mem_cons.mp h).resolve_left e),show ((0:Int):Rat)=0 from rfl];grind
theorem nL {x:Str→Rat} {nm:List Str} (nd:nm.Nodup):∀ {ts:List (Str×Int)},(∀ t∈ts,t.1∈nm)→sumR x ts=sumN x (cf ts) nm
 | [],_=>(fC fun _ _=>rfl).symm
 | t :: r,h=>by
  show _ + sumR x r=sumN x (fun n=>(if t.1=n then t.2 else 0) + cf r n) nm
  rw [jO,mU nd (h t (List.mem_cons_self ..)),nL nd fun u hu=>h u (List.mem_cons_of_mem _ hu)]
theorem jX:∀ {ts:List (Str×Int)} {t:Str×Int},(ts.map (·.1)).Nodup→t∈ts→cf ts t.1=t.2
 | u :: r,t,nd,h=>by
  obtain ⟨h1,h2⟩:=List.nodup_cons.mp nd
  show (if u.1=t.1 then u.2 else 0) + cf r t.1=t.2
  rcases List.mem_cons.mp h with rfl | h
  ·rw [if_pos rfl,iy h1,Int.add_zero]
  ·rw [if_neg fun e=>h1 (List.mem_map.mpr ⟨t,h,e.symm⟩),jX h2 h,Int.zero_add]
theorem dB.cf {F:Str→Int} {us:List (Str×Int)} (h:dB F us) (n:Str):cf us n=F n:=by
 by_cases e:n∈us.map (·.1)
 ·obtain ⟨t,ht,rfl⟩:=List.mem_map.mp e
  rw [jX h.nd ht,(h.val t ht).1]
 ·rw [iy e]
  exact (Classical.byContradiction fun z=>e (h.all n fun y=>z y.symm))
def evl (x:Str→Rat):List (Rw×Int)→Rat
 | []=>0
 | p :: r=>(p.2:Rat) * (sumR x p.1.2.1 - (p.1.2.2:Int)) + evl x r
theorem sg {x:Str→Rat} {nm:List Str} (nd:nm.Nodup):∀ {l:List (Rw×Int)},(∀ p∈l,∀ t∈p.1.2.1,t.1∈nm)→evl x l=sumN x (cfs l) nm - (bds l:Int)
 | [],_=>by
  show (0:Rat)=_ - ((0:Int):Rat)
  rw [fC (F:=cfs []) fun _ _=>rfl,show ((0:Int):Rat)=0 from rfl];grind
 | p :: r,h=>by
  show (p.2:Rat) * _ + evl x r=sumN x (fun n=>p.2 * cf p.1.2.1 n + cfs r n) nm - ((p.2 * p.1.2.2 + bds r:Int):Rat)
  rw [jO,nG,sg nd fun q hq=>h q (List.mem_cons_of_mem _ hq),nL nd (h p (List.mem_cons_self ..)),Rat.intCast_add,Rat.intCast_mul]
  grind
def smT (nm:List Str) (F:Str→Int):List (Str×Int):=(nm.filter fun n=>decide (F n≠0)).map fun n=>(n,F n)
def smR (nm:List Str) (rows:List Rw) (w:List Int):Rw:=(kOf (stc (rows.zip w)),smT nm (cfs (rows.zip w)),bds (rows.zip w))
structure Rws (nm:List Str) (rows:List Rw):Prop where
 pw:nm.Pairwise leS
 nd:nm.Nodup
 sum:∀ r∈rows,dB (cf r.2.1) r.2.1
 sub:∀ r∈rows,∀ t∈r.2.1,t.1∈nm
theorem Rws.cfs {nm:List Str} {rows:List Rw} (h:Rws nm rows) {w:List Int} {n:Str} (e:cfs (rows.zip w) n≠0):n∈nm :=
 qc (fun p hp=>h.sub p.1 (List.of_mem_zip hp).1) e
theorem Rws.smT {nm:List Str} {rows:List Rw} (h:Rws nm rows) (w:List Int):dB (Mf.cfs (rows.zip w)) (Mf.smT nm (Mf.cfs (rows.zip w))):=dB.mk' h.pw h.nd fun _ e=>h.cfs e
theorem qm {nm:List Str} {rows:List Rw} (h:Rws nm rows) {x:Str→Rat} {w:List Int}:soR x (smR nm rows w)↔(0 < evl x (rows.zip w)∨(evl x (rows.zip w)=0∧stc (rows.zip w)=false)):=by
 have e:=sg (x:=x) h.nd (l:=rows.zip w) fun p hp=>h.sub p.1 (List.of_mem_zip hp).1
 have e2:sumR x (Mf.smT nm (Mf.cfs (rows.zip w)))=sumN x (Mf.cfs (rows.zip w)) nm:=by
  rw [nL h.nd fun t ht=>?_]
  ·congr 1;exact funext fun n=>(h.smT w).cf n
  ·obtain ⟨n,hn,rfl⟩:=List.mem_map.mp ht
   exact (List.mem_filter.mp hn).1
 rw [e]
 unfold soR smR
 cases stc (rows.zip w)
 ·show ((bds _:Int):Rat)≤sumR x _↔_
  rw [e2];grind
 ·show ((bds _:Int):Rat) < sumR x _↔_
  rw [e2];grind
def toV (w:List Int):V:=fun i=>((w.getD i 0:Int):Rat)
def eV (x:Str→Rat) (rows:List Rw):V:=fun i=>match rows[i]? with | some r=>sumR x r.2.1 - (r.2.2:Int) | none=>0
def colV (rows:List Rw) (n:Str):V:=fun i=>match rows[i]? with | some r=>((cf r.2.1 n:Int):Rat) | none=>0
def stV (rows:List Rw):Nat→Bool:=fun i=>match rows[i]? with | some r=>isM r.1 | none=>false
theorem ie (c w:V):∀ m,dot (m + 1) c w=c 0 * w 0 + dot m (fun i=>c (i + 1)) (fun i=>w (i + 1))
 | 0=>by show (0:Rat) + c 0 * w 0=c 0 * w 0 + 0;grind
 | m + 1=>by show dot (m + 1) c w + c (m + 1) * w (m + 1)=_ + (dot m _ _ + c (m + 1) * w (m + 1));rw [ie c w m];grind
theorem i4 {x:Str→Rat}:∀ {rows:List Rw} {w:List Int},w.length=rows.length→evl x (rows.zip w)=dot rows.length (eV x rows) (toV w)
 | [],[],_=>rfl
 | r :: rows,a :: w,h=>by
  rw [List.length_cons,ie]
  show (a:Rat) * (sumR x r.2.1 - _) + evl x (rows.zip w)=(sumR x r.2.1 - _) * (a:Rat) + dot rows.length (eV x rows) (toV w)
  rw [i4 (by simpa using h)];grind
theorem jA {n:Str}:∀ {rows:List Rw} {w:List Int},w.length=rows.length→((cfs (rows.zip w) n:Int):Rat)=dot rows.length (colV rows n) (toV w)
 | [],[],_=>rfl
 | r :: rows,a :: w,h=>by
  rw [List.length_cons,ie]
  show ((a * cf r.2.1 n + cfs (rows.zip w) n:Int):Rat)=((cf r.2.1 n:Int):Rat) * (a:Rat) + dot rows.length (colV rows n) (toV w)
  rw [Rat.intCast_add,Rat.intCast_mul,jA (by simpa using h)];grind
theorem r8 {w:List Int} {i:Nat}:0 < toV w i↔0 < w.getD i 0:=Rat.intCast_pos
theorem m9:∀ {rows:List Rw} {w:List Int},w.length=rows.length→(stc (rows.zip w)=false↔∀ i,i < rows.length→0 < toV w i→stV rows i=false)
 | [],[],_=>⟨fun _ i hi=>absurd hi (Nat.not_lt_zero i),fun _=>rfl⟩
 | r :: rows,a :: w,h=>by
  have ih:=m9 (rows:=rows) (w:=w) (by simpa using h)
  have e:stc ((r :: rows).zip (a :: w))=((isM r.1 && decide (0 < a)) || stc (rows.zip w)):=rfl
  rw [e,Bool.or_eq_false_iff,ih]
  constructor
  ·rintro ⟨h1,h2⟩ i hi hp
   cases i with
   | zero =>
    have:0 < a:=r8.mp hp
    rw [decide_eq_true this,Bool.and_true] at h1
    exact h1
   | succ i=>exact h2 i (by simpa using hi) hp
  ·intro hh
   refine⟨?_,fun i hi hp=>hh (i + 1) (by simpa using hi) hp⟩
   by_cases ha:0 < a
   ·have:isM r.1=false:=hh 0 (Nat.succ_pos _) (r8.mpr ha)
    rw [this,Bool.false_and]
   ·rw [decide_eq_false ha,Bool.and_false]
theorem yg {nm:List Str} {rows:List Rw} (h:Rws nm rows) {x:Str→Rat} {w:List Int} (hl:w.length=rows.length):soR x (smR nm rows w)↔sat rows.length (stV rows) (eV x rows) (toV w):=by
 rw [qm h,i4 hl,m9 hl];rfl
theorem nv (w:V):∀ m,sz (m + 1) w=(if w 0=0 then 0 else 1) + sz m fun i=>w (i + 1)
 | 0=>by rw [eW];show sz 0 w + _=_ + sz 0 _;unfold sz;simp
 | m + 1=>by rw [eW,nv w m,eW m];omega
def usd (w:List Int):Nat:=(w.filter fun a=>decide (0 < a)).length
theorem vo:∀ {w:List Int},(∀ a∈w,0≤a)→sz w.length (toV w)=usd w
 | [],_=>rfl
 | a :: w,h=>by
  rw [List.length_cons,nv]
  show (if ((a:Int):Rat)=0 then 0 else 1) + sz w.length (toV w)=usd (a :: w)
  rw [vo fun b hb=>h b (List.mem_cons_of_mem _ hb)]
  have h0:=h a (List.mem_cons_self ..)
  unfold usd
  by_cases e:0 < a
  ·rw [List.filter_cons_of_pos (by simpa using e),if_neg (fun z=>by have:a=0:=Rat.intCast_inj.mp z;omega),List.length_cons];omega
  ·have:a=0:=by omega
   rw [List.filter_cons_of_neg (by simpa using e),if_pos (by rw [this];rfl)];omega
theorem sB {w:List Int} {m:Nat} (hl:w.length=m) (h:∀ a∈w,0≤a):Nn m (toV w):=by
 refine⟨fun i=>?_,fun i hi=>?_⟩
 ·show (0:Rat)≤((w.getD i 0:Int):Rat)
  refine Rat.intCast_nonneg.mpr ?_
  rw [List.getD_eq_getElem?_getD]
  cases e:w[i]? with
  | none=>exact Int.le_refl 0
  | some a=>exact h a (List.mem_of_getElem? e)
 ·show ((w.getD i 0:Int):Rat)=0
  rw [List.getD_eq_getElem?_getD,List.getElem?_eq_none (by omega)];rfl
end Mf
namespace Mf
open PySem L2 DL
def gW (ws:List Int):Int:=ws.foldl gc 0
theorem AB (a b:Int):0≤gc a b∧gc a b ∣ a∧gc a b ∣ b∧(a≠0∨b≠0→gc a b≠0):=by
 refine⟨pR a b,eQ a b,dQ a b,fun h z=>?_⟩
 unfold gc at z
 have:=Int.gcd_eq_zero_iff.mp (by omega:Int.gcd a b=0)
 rcases h with h | h
 ·exact h this.1
 ·exact h this.2
theorem kZ:∀ (ws:List Int) (a:Int),ws.foldl gc a ∣ a∧(∀ w∈ws,ws.foldl gc a ∣ w)∧((a≠0∨∃ w∈ws,w≠0)→ws.foldl gc a≠0)∧(0≤a→0≤ws.foldl gc a)
 | [],a=>⟨Int.dvd_refl a,fun _ h=>(nomatch h),fun h=>h.elim id fun ⟨_,h,_⟩=>(nomatch h),id⟩
 | w :: ws,a=>by
  obtain ⟨h1,h2,h3,h4⟩:=kZ ws (gc a w)
  obtain ⟨g0,g1,g2,g3⟩:=AB a w
  refine⟨Int.dvd_trans h1 g1,fun v hv=>?_,fun h=>h3 ?_,fun _=>h4 g0⟩
  ·rcases List.mem_cons.mp hv with rfl | hv
   ·exact Int.dvd_trans h1 g2
   ·exact h2 v hv
  ·rcases h with h | ⟨v,hv,hn⟩
   ·exact .inl (g3 (.inl h))
   ·rcases List.mem_cons.mp hv with rfl | hv
    ·exact .inl (g3 (.inr hn))
    ·exact .inr ⟨v,hv,hn⟩
theorem mO {ws:List Int} (h:∃ w∈ws,w≠0):0 < gW ws:=by
 obtain ⟨_,_,h3,h4⟩:=kZ ws 0
 have:=h3 (.inr h)
 have:=h4 (Int.le_refl 0)
 unfold gW
 omega
theorem kq {ws:List Int} {w:Int} (h:w∈ws):gW ws ∣ w:=(kZ ws 0).2.1 w h
def crS (rows:List Rw) (n:Str) (l h:List Int):List Int:=List.zipWith (fun a b=>a * -(cfs (rows.zip h) n) + b * cfs (rows.zip l) n) l h
def shW (ws:List Int):List Int:=ws.map fun a=>a.fdiv (gW ws)
def crW (rows:List Rw) (n:Str) (l h:List Int):List Int:=shW (crS rows n l h)
def woW (rows:List Rw) (n:Str) (most:Nat) (W:List (List Int)):List (List Int) :=
 (W.filter fun w=>decide (cfs (rows.zip w) n=0))++(W.filter fun w=>decide (0 < cfs (rows.zip w) n)).flatMap fun l =>
  ((W.filter fun w=>decide (cfs (rows.zip w) n < 0)).map (crW rows n l)).filter fun u=>decide (usd u≤most)
def unW (m j:Nat):List Int:=(List.range m).map fun i=>if i=j then 1 else 0
def unWs (m:Nat):List (List Int):=(List.range m).map (unW m)
def stW (rows:List Rw):List Str→List (List Int)
 | []=>unWs rows.length
 | n :: ns=>woW rows n (ns.length + 2) (stW rows ns)
structure Wt (m:Nat) (w:List Int):Prop where
 len:w.length=m
 nn:∀ a∈w,0≤a
 nz:∃ a∈w,a≠0
theorem mo {f:Int→Int→Int} (hf:f 0 0=0):∀ {l h:List Int},l.length=h.length→∀ i,toV (List.zipWith f l h) i=((f (l.getD i 0) (h.getD i 0):Int):Rat)
 | [],[],_,i=>by show (0:Rat)=((f 0 0:Int):Rat);rw [hf];rfl
 | a :: l,b :: h,e,0=>rfl
 | a :: l,b :: h,e,i + 1=>mo hf (by simpa using e) i
theorem l8 {n:Str} {a b:Int}:∀ {rows:List Rw} {l h:List Int},l.length=rows.length→h.length=rows.length→cfs (rows.zip (List.zipWith (fun x y=>x * a + y * b) l h)) n=a * cfs (rows.zip l) n + b * cfs (rows.zip h) n
 | [],[],[],_,_=>by show (0:Int)=a * 0 + b * 0;omega
 | r :: rows,x :: l,y :: h,h1,h2=>by
  show (x * a + y * b) * cf r.2.1 n + cfs (rows.zip (List.zipWith _ l h)) n=a * (x * cf r.2.1 n + cfs (rows.zip l) n) + b * (y * cf r.2.1 n + cfs (rows.zip h) n)
  rw [l8 (rows:=rows) (l:=l) (h:=h) (by simpa using h1) (by simpa using h2)];grind
theorem sA {ws:List Int} (hz:∃ w∈ws,w≠0):List.zipWith (fun x y=>x * gW ws + y * 0) (shW ws) (shW ws)=ws:=by
 unfold shW
 have:∀ (l:List Int),(∀ a∈l,gW ws ∣ a)→List.zipWith (fun x y=>x * gW ws + y * 0) (l.map fun a=>a.fdiv (gW ws)) (l.map fun a=>a.fdiv (gW ws))=l:=fun l=>by
  induction l with
  | nil=>intro _;rfl
  | cons a l ih =>
   intro h
   show (a.fdiv (gW ws) * gW ws + _ * 0) :: _=a :: l
   rw [ih fun b hb=>h b (List.mem_cons_of_mem _ hb),Int.fdiv_mul_cancel (h a (List.mem_cons_self ..)),Int.mul_zero,Int.add_zero]
 exact this ws fun a ha=>kq ha
theorem mt {ws:List Int}:(shW ws).length=ws.length:=List.length_map ..
theorem yC {rows:List Rw} {n:Str} {ws:List Int} (hl:ws.length=rows.length) (hz:∃ w∈ws,w≠0):gW ws * cfs (rows.zip (shW ws)) n=cfs (rows.zip ws) n:=by
 have e:=l8 (rows:=rows) (n:=n) (a:=gW ws) (b:=0) (l:=shW ws) (h:=shW ws) (by rw [mt,hl]) (by rw [mt,hl])
 rw [sA hz] at e
 rw [e];omega
theorem yX {ws:List Int} (hz:∃ w∈ws,w≠0) (i:Nat):((gW ws:Int):Rat) * toV (shW ws) i=toV ws i:=by
 have e:=mo (f:=fun x y=>x * gW ws + y * 0) (by omega) (l:=shW ws) (h:=shW ws) rfl i
 rw [sA hz] at e
 rw [e]
 show _ * ((_:Int):Rat)=_
 simp only [Int.mul_zero,Int.add_zero]
 rw [Rat.intCast_mul];grind
theorem Bo {ws:List Int} (hz:∃ w∈ws,w≠0) (h:∀ a∈ws,0≤a):∀ a∈shW ws,0≤a:=fun a ha=>by
 obtain ⟨b,hb,rfl⟩:=List.mem_map.mp ha
 obtain ⟨c,hc⟩:=kq hb
 have g:=mO hz
 have hb0:=h b hb
 have e:b.fdiv (gW ws) * gW ws=b:=Int.fdiv_mul_cancel (kq hb)
 refine Classical.byContradiction fun z=>?_
 have:=Int.mul_lt_mul_of_pos_right (show b.fdiv (gW ws) < 0 by omega) g
 omega
theorem AJ {ws:List Int} (hz:∃ w∈ws,w≠0):∃ a∈shW ws,a≠0:=by
 obtain ⟨w,hw,hn⟩:=hz
 refine⟨_,List.mem_map.mpr ⟨w,hw,rfl⟩,fun z=>hn ?_⟩
 have e:w.fdiv (gW ws) * gW ws=w:=Int.fdiv_mul_cancel (kq hw)
 rw [z] at e;omega
theorem l5 {rows:List Rw} {n:Str} {m:Nat} {l h:List Int} (hl:l.length=m) (hh:h.length=m):(crS rows n l h).length=m:=by unfold crS;rw [List.length_zipWith];omega
theorem zS {a b:Int} (ha:0 < a) (hb:0 < b):∀ {l h:List Int},(∀ x∈l,0≤x)→(∀ x∈h,0≤x)→∀ x∈List.zipWith (fun x y=>x * a + y * b) l h,0≤x
 | [],_,_,_,x,hx=>by simp at hx
 | _ :: _,[],_,_,x,hx=>by simp at hx
 | u :: l,v :: h,h1,h2,x,hx=>by
  rw [List.zipWith_cons_cons] at hx
  rcases List.mem_cons.mp hx with rfl | hx
  ·have:=Int.mul_nonneg (h1 u (List.mem_cons_self ..)) (Int.le_of_lt ha)
   have:=Int.mul_nonneg (h2 v (List.mem_cons_self ..)) (Int.le_of_lt hb)
   omega
  ·exact zS ha hb (fun x hx=>h1 x (List.mem_cons_of_mem _ hx)) (fun x hx=>h2 x (List.mem_cons_of_mem _ hx)) x hx
theorem x8 {a b:Int} (ha:0 < a) (hb:0 < b):∀ {l h:List Int},l.length=h.length→(∀ x∈l,0≤x)→(∀ x∈h,0≤x)→(∃ x∈l,x≠0)→∃ x∈List.zipWith (fun x y=>x * a + y * b) l h,x≠0
 | [],_,_,_,_,⟨x,hx,_⟩=>by simp at hx
 | _ :: _,[],e,_,_,_=>by simp at e
 | u :: l,v :: h,e,h1,h2,⟨x,hx,hn⟩=>by
  rw [List.zipWith_cons_cons]
  rcases List.mem_cons.mp hx with rfl | hx
  ·refine⟨_,List.mem_cons_self ..,fun z=>?_⟩
   have:=Int.mul_pos (a:=x) (b:=a) (by have:=h1 x (List.mem_cons_self ..);omega) ha
   have:=Int.mul_nonneg (h2 v (List.mem_cons_self ..)) (Int.le_of_lt hb)
   omega
  ·obtain ⟨y,hy,hy0⟩:=x8 ha hb (by simpa using e) (fun x hx=>h1 x (List.mem_cons_of_mem _ hx)) (fun x hx=>h2 x (List.mem_cons_of_mem _ hx)) ⟨x,hx,hn⟩
   exact⟨y,List.mem_cons_of_mem _ hy,hy0⟩
section
variable {rows:List Rw} {n:Str} {l h:List Int}
theorem iN (wl:Wt rows.length l) (wh:Wt rows.length h) (cl:0 < cfs (rows.zip l) n) (ch:cfs (rows.zip h) n < 0):(∀ a∈crS rows n l h,0≤a)∧∃ a∈crS rows n l h,a≠0 :=
 ⟨zS (by omega) cl wl.nn wh.nn,x8 (by omega) cl (by rw [wl.len,wh.len]) wl.nn wh.nn wl.nz⟩
theorem qg (wl:Wt rows.length l) (wh:Wt rows.length h) (cl:0 < cfs (rows.zip l) n) (ch:cfs (rows.zip h) n < 0):Wt rows.length (crW rows n l h):=by
 obtain ⟨h1,h2⟩:=iN wl wh cl ch
 exact⟨by unfold crW;rw [mt];exact l5 wl.len wh.len,Bo h2 h1,AJ h2⟩
theorem xQ {k:Str} (wl:Wt rows.length l) (wh:Wt rows.length h) (cl:0 < cfs (rows.zip l) n) (ch:cfs (rows.zip h) n < 0):gW (crS rows n l h) * cfs (rows.zip (crW rows n l h)) k=-(cfs (rows.zip h) n) * cfs (rows.zip l) k + cfs (rows.zip l) n * cfs (rows.zip h) k:=by
 obtain ⟨h1,h2⟩:=iN wl wh cl ch
 unfold crW
 rw [yC (l5 wl.len wh.len) h2]
 exact l8 (rows:=rows) wl.len wh.len
theorem pU (wl:Wt rows.length l) (wh:Wt rows.length h) (cl:0 < cfs (rows.zip l) n) (ch:cfs (rows.zip h) n < 0) (i:Nat):((gW (crS rows n l h):Int):Rat) * toV (crW rows n l h) i=-((cfs (rows.zip h) n:Int):Rat) * toV l i + ((cfs (rows.zip l) n:Int):Rat) * toV h i:=by
 obtain ⟨h1,h2⟩:=iN wl wh cl ch
 unfold crW
 rw [yX h2]
 unfold crS
 rw [mo (by omega) (by rw [wl.len,wh.len])]
 rw [Rat.intCast_add,Rat.intCast_mul,Rat.intCast_mul,Rat.intCast_neg]
 unfold toV
 grind
end
theorem gI {rows:List Rw} {n:Str} {most:Nat} {W:List (List Int)} {w:List Int}:w∈woW rows n most W↔(w∈W∧cfs (rows.zip w) n=0)∨∃ l∈W,0 < cfs (rows.zip l) n∧∃ h∈W,cfs (rows.zip h) n < 0∧w=crW rows n l h∧usd w≤most:=by
 unfold woW
 rw [List.mem_append,List.mem_filter,List.mem_flatMap]
 refine or_congr (by simp) ?_
 constructor
 ·rintro ⟨l,hl,hm⟩
  obtain ⟨hl1,hl2⟩:=List.mem_filter.mp hl
  obtain ⟨hm1,hm2⟩:=List.mem_filter.mp hm
  obtain ⟨h,hh,rfl⟩:=List.mem_map.mp hm1
  obtain ⟨hh1,hh2⟩:=List.mem_filter.mp hh
  exact⟨l,hl1,by simpa using hl2,h,hh1,by simpa using hh2,rfl,by simpa using hm2⟩
 ·rintro ⟨l,hl,cl,h,hh,ch,rfl,hu⟩
  exact⟨l,List.mem_filter.mpr ⟨hl,by simpa using cl⟩,List.mem_filter.mpr ⟨List.mem_map.mpr ⟨h,List.mem_filter.mpr ⟨hh,by simpa using ch⟩,rfl⟩,by simpa using hu⟩⟩
theorem Ah {m j:Nat} (h:j < m):Wt m (unW m j):=by
 refine⟨by unfold unW;simp,fun a ha=>?_,1,?_,by decide⟩
 ·obtain ⟨i,_,rfl⟩:=List.mem_map.mp ha
  split<;>decide
 ·exact List.mem_map.mpr ⟨j,List.mem_range.mpr h,by simp⟩
theorem wy {m j:Nat} (h:j < m):toV (unW m j)=unit j:=by
 funext i
 unfold toV unW unit
 rw [List.getD_eq_getElem?_getD,List.getElem?_map]
 by_cases hi:i < m
 ·rw [List.getElem?_range hi]
  show (((if i=j then 1 else 0:Int)):Rat)=_
  by_cases e:i=j<;>simp [e]
 ·rw [List.getElem?_eq_none (by simpa using Nat.le_of_not_lt hi)]
  have:i≠j:=by omega
  simp [this]
theorem ci {rows:List Rw}:∀ {ns:List Str} {w:List Int},w∈stW rows ns→Wt rows.length w∧∀ n∈ns,cfs (rows.zip w) n=0
 | [],w,h=>by
  obtain ⟨j,hj,rfl⟩:=List.mem_map.mp h
  exact⟨Ah (List.mem_range.mp hj),fun _ h=>(nomatch h)⟩
 | n :: ns,w,h=>by
  rcases gI.mp h with ⟨h1,h2⟩ | ⟨l,hl,cl,k,hk,ck,rfl,_⟩
  ·obtain ⟨a,b⟩:=ci h1
   exact⟨a,fun x hx=>(List.mem_cons.mp hx).elim (fun e=>e ▸ h2) (b x)⟩
  ·obtain ⟨a,b⟩:=ci hl
   obtain ⟨a',b'⟩:=ci hk
   refine⟨qg a a' cl ck,fun x hx=>?_⟩
   have e:=xQ (k:=x) a a' cl ck
   have g:=mO (iN a a' cl ck).2
   have:-(cfs (rows.zip k) n) * cfs (rows.zip l) x + cfs (rows.zip l) n * cfs (rows.zip k) x=0:=by
    rcases List.mem_cons.mp hx with rfl | hx
    ·grind
    ·rw [b x hx,b' x hx];omega
   rw [this] at e
   rcases Int.mul_eq_zero.mp e with z | z
   ·omega
   ·exact z
theorem sJ {rows:List Rw} {n:Str} {ns:List Str}:Kept rows.length (colV rows n) (ns.length + 2) ((stW rows ns).map toV) ((stW rows (n :: ns)).map toV):=by
 have dt:∀ {w},w∈stW rows ns→dot rows.length (colV rows n) (toV w)=((cfs (rows.zip w) n:Int):Rat):=fun h=>(jA (ci h).1.len).symm
 constructor
 ·intro s hs
  obtain ⟨w,hw,rfl⟩:=List.mem_map.mp hs
  exact sB (ci hw).1.len (ci hw).1.nn
 ·intro s hs h0
  obtain ⟨w,hw,rfl⟩:=List.mem_map.mp hs
  rw [dt hw] at h0
  exact List.mem_map.mpr ⟨w,gI.mpr (.inl ⟨hw,Rat.intCast_inj.mp h0⟩),rfl⟩
 ·intro l hl h hh cl ch hz
  obtain ⟨l,hl2,rfl⟩:=List.mem_map.mp hl
  obtain ⟨h,hh2,rfl⟩:=List.mem_map.mp hh
  clear hl hh
  have hl:=hl2
  have hh:=hh2
  rw [dt hl] at cl hz ⊢
  rw [dt hh] at ch hz ⊢
  have cl:0 < cfs (rows.zip l) n:=Rat.intCast_pos.mp cl
  have ch:cfs (rows.zip h) n < 0:=Rat.intCast_neg_iff.mp ch
  have wl:=(ci hl).1
  have wh:=(ci hh).1
  have ww:=qg wl wh cl ch
  have g:=mO (iN wl wh cl ch).2
  have gr:(0:Rat) < ((gW (crS rows n l h):Int):Rat):=Rat.intCast_pos.mpr g
  refine⟨_,List.mem_map.mpr ⟨crW rows n l h,gI.mpr (.inr ⟨l,hl,cl,h,hh,ch,rfl,?_⟩),rfl⟩,_,gr,fun i=>pU wl wh cl ch i⟩
  rw [← vo ww.nn,ww.len]
  refine Nat.le_trans (tK _ fun i _ hi=>?_) hz
  rw [← pU wl wh cl ch i]
  intro z
  rcases Rat.mul_eq_zero.mp z with q | q
  ·grind
  ·exact hi q
theorem nN {rows:List Rw}:∀ ns:List Str,Comp rows.length (stV rows) (ns.map (colV rows)) ((stW rows ns).map toV)
 | []=>pI _ fun j hj=>List.mem_map.mpr ⟨unW rows.length j,List.mem_map.mpr ⟨j,List.mem_range.mpr hj,rfl⟩,wy hj⟩
 | n :: ns=>rl (nN ns) (by rw [List.length_map];exact sJ)
end Mf
namespace Mf
open PySem L2 DL
def frR (p:Int×Int):Rat:=(p.1:Rat) / (p.2:Rat)
theorem fe {a:Int} (h:a≠0):((a:Int):Rat)≠0:=fun z=>h (Rat.intCast_inj.mp z)
theorem iX {a:Int} (h:0 < a):(0:Rat) < ((a:Int):Rat):=Rat.intCast_pos.mpr h
theorem ia (t:Int) {b:Int} (h:b≠0):frR (mkT t b,mkB t b)=(t:Rat) / (b:Rat):=by
 have c:=mV t b
 have hB:=(el t h).ne
 have c2:((mkT t b:Int):Rat) * (b:Rat)=(t:Rat) * ((mkB t b:Int):Rat):=by rw [← Rat.intCast_mul,← Rat.intCast_mul,c]
 have h1:=fe h
 have h2:=fe hB
 show ((mkT t b:Int):Rat) / ((mkB t b:Int):Rat)=_
 grind
theorem hE {p q:Int×Int} (hp:0 < p.2) (hq:0 < q.2):frR p < frR q↔p.1 * q.2 < q.1 * p.2:=by
 have h1:=iX hp
 have h2:=iX hq
 have h3:=Rat.mul_pos h1 h2
 have e1:frR p * ((p.2:Rat) * (q.2:Rat))=((p.1 * q.2:Int):Rat):=by rw [Rat.intCast_mul];unfold frR;grind
 have e2:frR q * ((p.2:Rat) * (q.2:Rat))=((q.1 * p.2:Int):Rat):=by rw [Rat.intCast_mul];unfold frR;grind
 rw [← Rat.intCast_lt_intCast,← e1,← e2]
 constructor
 ·intro h
  have:=Rat.mul_pos (a:=frR q - frR p) (by grind) h3
  grind
 ·intro h
  refine Classical.byContradiction fun z=>?_
  have:=Rat.mul_nonneg (a:=frR p - frR q) (b:=(p.2:Rat) * (q.2:Rat)) (by grind) (by grind)
  grind
theorem rq {p q:Int×Int} (hp:Low p.1 p.2) (hq:Low q.1 q.2) (e:frR p=frR q):p=q:=by
 have h1:¬ p.1 * q.2 < q.1 * p.2:=fun z=>by have:=(hE hp.pos hq.pos).mpr z;grind
 have h2:¬ q.1 * p.2 < p.1 * q.2:=fun z=>by have:=(hE hq.pos hp.pos).mpr z;grind
 have:=hp.uniq hq (by omega)
 exact Prod.ext this.1 this.2
theorem lO (a:Int):frR (mkT a 1,mkB a 1)=(a:Rat):=by
 rw [ia a (by decide)]
 show (a:Rat) / ((1:Int):Rat)=a
 rw [show ((1:Int):Rat)=1 from rfl];grind
theorem mY (a:Int):mkT a 1=a∧mkB a 1=1:=Low.self ⟨by decide,by unfold gc;simp⟩
theorem zC {p:Int×Int} (h:0 < p.2):((p.1.fdiv p.2:Int):Rat)≤frR p∧frR p < ((p.1.fdiv p.2 + 1:Int):Rat):=by
 have m0:=Int.fmod_nonneg_of_pos p.1 h
 have m1:=Int.fmod_lt_of_pos p.1 h
 have e:p.2 * p.1.fdiv p.2 + p.1.fmod p.2=p.1:=by rw [Int.fmod_def];omega
 have hr:=iX h
 generalize hf:p.1.fdiv p.2=f at *
 have e1:((f:Int):Rat)=frR (f,1):=by unfold frR;show _=((f:Int):Rat) / ((1:Int):Rat);rw [show ((1:Int):Rat)=1 from rfl];grind
 have e2:((f + 1:Int):Rat)=frR (f + 1,1):=by unfold frR;show _=((f + 1:Int):Rat) / ((1:Int):Rat);rw [show ((1:Int):Rat)=1 from rfl];grind
 rw [e1,e2]
 constructor
 ·refine Classical.byContradiction fun z=>?_
  have:=(hE (p:=p) (q:=(f,1)) h Int.one_pos).mp (by grind)
  simp only at this
  have:p.2 * f=f * p.2:=Int.mul_comm ..
  omega
 ·refine (hE (p:=p) (q:=(f + 1,1)) h Int.one_pos).mpr ?_
  simp only
  rw [Int.add_mul]
  have:p.2 * f=f * p.2:=Int.mul_comm ..
  omega
def ptR (ks:List Str) (ps:List (Int×Int)):Str→Rat:=fun n=>frR (ptOf ks ps n)
theorem ov_R {ks:List Str} {ps:List (Int×Int)} {K:Int} {n:Str} (h0:0 < pB ks ps n) (hd:pB ks ps n ∣ K):((ov (pT ks ps) (pB ks ps) K n:Int):Rat)=(K:Rat) * ptR ks ps n:=by
 obtain ⟨y,rfl⟩:=hd
 have hn:pB ks ps n≠0:=by omega
 unfold ov ptR frR
 rw [Int.mul_fdiv_cancel_left _ hn,Rat.intCast_mul,Rat.intCast_mul]
 have:=fe hn
 show ((pT ks ps n:Int):Rat) * _=((pB ks ps n:Int):Rat) * _ * (((pT ks ps n:Int):Rat) / ((pB ks ps n:Int):Rat))
 grind
theorem jT {ks:List Str} {ps:List (Int×Int)} {K:Int}:∀ {ts:List (Str×Int)},(∀ t∈ts,0 < pB ks ps t.1∧pB ks ps t.1 ∣ K)→((sumT (ov (pT ks ps) (pB ks ps) K) ts:Int):Rat)=(K:Rat) * sumR (ptR ks ps) ts
 | [],_=>by show ((0:Int):Rat)=_ * 0;rw [show ((0:Int):Rat)=0 from rfl];grind
 | t :: r,h=>by
  show ((t.2 * ov _ _ K t.1 + sumT _ r:Int):Rat)=_ * ((t.2:Rat) * _ + sumR _ r)
  obtain ⟨h1,h2⟩:=h t (List.mem_cons_self ..)
  rw [Rat.intCast_add,Rat.intCast_mul,ov_R h1 h2,jT fun u hu=>h u (List.mem_cons_of_mem _ hu)];grind
def bnd (ks:List Str) (ps:List (Int×Int)) (n:Str) (r:Rw):Int×Int :=
 let o:=r.2.1.filter fun t=>decide (t.1≠n)
 let K:=bot (pB ks ps) (o.map (·.1))
 (mkT (r.2.2 * K - sumT (ov (pT ks ps) (pB ks ps) K) o) (cf r.2.1 n * K),mkB (r.2.2 * K - sumT (ov (pT ks ps) (pB ks ps) K) o) (cf r.2.1 n * K))
theorem eI {x:Str→Rat} {n:Str} (h:x n=0):∀ ts:List (Str×Int),sumR x (ts.filter fun t=>decide (t.1≠n))=sumR x ts
 | []=>rfl
 | t :: r=>by
  by_cases e:t.1=n
  ·rw [List.filter_cons_of_neg (by simp [e]),eI h r]
   show _=(t.2:Rat) * x t.1 + _
   rw [e,h];grind
  ·rw [List.filter_cons_of_pos (by simp [e])]
   show _ + _=_ + sumR x r
   rw [eI h r]
theorem yb {ks:List Str} {ps:List (Int×Int)} {n:Str} {r:Rw} (hp:∀ t∈r.2.1,t.1≠n→0 < pB ks ps t.1) (h0:ptR ks ps n=0) (hc:cf r.2.1 n≠0) :
  Low (bnd ks ps n r).1 (bnd ks ps n r).2∧frR (bnd ks ps n r)=-(sumR (ptR ks ps) r.2.1 - (r.2.2:Int)) / ((cf r.2.1 n:Int):Rat):=by
 unfold bnd
 have ho:∀ t∈r.2.1.filter (fun t=>decide (t.1≠n)),0 < pB ks ps t.1:=fun t ht=>by
  obtain ⟨h1,h2⟩:=List.mem_filter.mp ht
  exact hp t h1 (by simpa using h2)
 have hs:=eI h0 r.2.1
 generalize ho':r.2.1.filter (fun t=>decide (t.1≠n))=o at *
 have hK:0 < bot (pB ks ps) (o.map (·.1)):=cD fun k hk=>by
  obtain ⟨t,ht,rfl⟩:=List.mem_map.mp hk
  exact ho t ht
 have e:=jT (ks:=ks) (ps:=ps) (K:=bot (pB ks ps) (o.map (·.1))) (ts:=o) fun t ht=>⟨ho t ht,dJ (List.mem_map.mpr ⟨t,ht,rfl⟩)⟩
 simp only
 generalize bot (pB ks ps) (o.map (·.1))=K at *
 have hcK:cf r.2.1 n * K≠0:=Int.mul_ne_zero hc (by omega)
 refine⟨el _ hcK,?_⟩
 rw [ia _ hcK,Rat.intCast_mul,Rat.intCast_sub,Rat.intCast_mul,e,hs]
 have h1:=fe hc
 have h2:=fe (show K≠0 by omega)
 grind
abbrev En2:=Option (Int×Int)×Bool
def tgt (lo:Bool) (a b:En2):En2:=match a.1,b.1 with
 | none,_=>b
 | some _,none=>a
 | some p,some q=>if p=q then (some p,a.2 && b.2) else if decide (q.1 * p.2 < p.1 * q.2)=lo then a else b
structure Tgt (lo:Bool) (cs:List ((Int×Int)×Bool)) (e:En2):Prop where
 nn:e.1=none→cs=[]
 so:∀ p,e.1=some p→Low p.1 p.2∧(∃ c∈cs,c.1=p∧c.2=e.2)∧∀ c∈cs,(c.1=p∧(e.2=true→c.2=true))∨(c.1≠p∧(if lo then frR c.1 < frR p else frR p < frR c.1))
theorem Tgt.nil {lo:Bool}:Tgt lo [] (none,false):=⟨fun _=>rfl,fun _ h=>(nomatch h)⟩
theorem Tgt.step {lo:Bool} {cs:List ((Int×Int)×Bool)} {e:En2} {c:(Int×Int)×Bool} (h:Tgt lo cs e) (hc:Low c.1.1 c.1.2):Tgt lo (cs++[c]) (tgt lo e (some c.1,c.2)):=by
 obtain ⟨e1,e2⟩:=e
 obtain ⟨q,b⟩:=c
 cases e1 with
 | none =>
  have:cs=[]:=h.nn rfl
  subst this
  refine⟨fun z=>(nomatch z),fun p hp=>?_⟩
  cases hp
  exact⟨hc,⟨(q,b),by simp,rfl,rfl⟩,fun c hc=>by
   have:c=(q,b):=by simpa using hc
   subst this;exact .inl ⟨rfl,id⟩⟩
 | some p =>
  obtain ⟨lp,⟨w,hw,w1,w2⟩,all⟩:=h.so p rfl
  show Tgt lo _ (if p=q then (some p,e2 && b) else if decide (q.1 * p.2 < p.1 * q.2)=lo then (some p,e2) else (some q,b))
  have lt:=hE (p:=q) (q:=p) hc.pos lp.pos
  have gt:=hE (p:=p) (q:=q) lp.pos hc.pos
  by_cases e:p=q
  ·rw [if_pos e]
   subst e
   refine⟨fun z=>(nomatch z),fun p' hp=>?_⟩
   cases hp
   refine⟨lp,?_,fun c hc'=>?_⟩
   ·cases b
    ·exact⟨(p,false),by simp,rfl,by simp⟩
    ·exact⟨w,List.mem_append_left _ hw,w1,by simpa using w2⟩
   ·rcases List.mem_append.mp hc' with hc' | hc'
    ·rcases all c hc' with ⟨a1,a2⟩ | a
     ·exact .inl ⟨a1,fun z=>a2 (by simpa using (by simpa using z:e2=true∧b=true).1)⟩
     ·exact .inr a
    ·have:c=(p,b):=by simpa using hc'
     subst this;exact .inl ⟨rfl,fun z=>(by simpa using z:e2=true∧b=true).2⟩
  ·rw [if_neg e]
   have ne:frR p≠frR q:=fun z=>e (rq lp hc z)
   by_cases k:decide (q.1 * p.2 < p.1 * q.2)=lo
   ·rw [if_pos k]
    refine⟨fun z=>(nomatch z),fun p' hp=>?_⟩
    cases hp
    refine⟨lp,⟨w,List.mem_append_left _ hw,w1,w2⟩,fun c hc'=>?_⟩
    rcases List.mem_append.mp hc' with hc' | hc'
    ·exact all c hc'
    ·have:c=(q,b):=by simpa using hc'
     subst this
     refine .inr ⟨fun z=>e z.symm,?_⟩
     cases lo
     ·have:=(decide_eq_false_iff_not.mp k)
      simp only [Bool.false_eq_true,if_false]
      have:¬ frR q < frR p:=fun z=>this (lt.mp z)
      grind
     ·simp only [if_true]
      exact lt.mpr (decide_eq_true_eq.mp k)
   ·rw [if_neg k]
    refine⟨fun z=>(nomatch z),fun p' hp=>?_⟩
    cases hp
    have pq:if lo then frR p < frR q else frR q < frR p:=by
     cases lo
     ·simp only [Bool.false_eq_true,if_false]
      simp only [Bool.not_eq_false,decide_eq_true_eq] at k
      exact lt.mpr k
     ·simp only [if_true]
      simp only [decide_eq_true_eq] at k
      have:¬ frR q < frR p:=fun z=>k (lt.mp z)
      grind
    refine⟨hc,⟨(q,b),by simp,rfl,rfl⟩,fun c hc'=>?_⟩
    rcases List.mem_append.mp hc' with hc' | hc'
    ·have x:=all c hc'
     refine .inr ?_
     cases lo
     ·simp only [Bool.false_eq_true,if_false] at x pq ⊢
      have:frR q < frR c.1:=by rcases x with x | x;rw [x.1];exact pq;grind
      exact⟨fun z=>by rw [z] at this;grind,this⟩
     ·simp only [if_true] at x pq ⊢
      have:frR c.1 < frR q:=by rcases x with x | x;rw [x.1];exact pq;grind
      exact⟨fun z=>by rw [z] at this;grind,this⟩
    ·have:c=(q,b):=by simpa using hc'
     subst this;exact .inl ⟨rfl,id⟩
def nmb (lo hi:Option (Int×Int)):Int×Int:=match lo,hi with
 | none,none=>(0,1)
 | none,some h=>(mkT (h.1.fdiv h.2 - 1) 1,mkB (h.1.fdiv h.2 - 1) 1)
 | some l,none=>(mkT (l.1.fdiv l.2 + 1) 1,mkB (l.1.fdiv l.2 + 1) 1)
 | some l,some h =>
  if mkT (l.1.fdiv l.2 + 1) 1 * h.2 < h.1 * mkB (l.1.fdiv l.2 + 1) 1 then (mkT (l.1.fdiv l.2 + 1) 1,mkB (l.1.fdiv l.2 + 1) 1)
  else if l=h then l
  else
   let s:Int×Int:=(mkT (l.1 * h.2 + h.1 * l.2) (l.2 * h.2),mkB (l.1 * h.2 + h.1 * l.2) (l.2 * h.2))
   (mkT (s.1 * 1) (s.2 * 2),mkB (s.1 * 1) (s.2 * 2))
theorem zg {lo hi:En2} (h1:∀ p,lo.1=some p→Low p.1 p.2) (h2:∀ p,hi.1=some p→Low p.1 p.2) (hh:∀ p q,lo.1=some p→hi.1=some q→frR p < frR q∨(frR p=frR q∧lo.2=true∧hi.2=true)) :
  Low (nmb lo.1 hi.1).1 (nmb lo.1 hi.1).2∧(∀ p,lo.1=some p→frR p < frR (nmb lo.1 hi.1)∨(frR p=frR (nmb lo.1 hi.1)∧lo.2=true))∧∀ q,hi.1=some q→frR (nmb lo.1 hi.1) < frR q∨(frR (nmb lo.1 hi.1)=frR q∧hi.2=true):=by
 obtain ⟨l,lb⟩:=lo
 obtain ⟨h,hb⟩:=hi
 have L1:∀ a,Low (mkT a 1) (mkB a 1):=fun a=>el a (by decide)
 cases l with
 | none =>
  cases h with
  | none=>exact⟨(⟨by decide,by unfold gc;decide⟩:Low 0 1),fun p z=>(nomatch z),fun p z=>(nomatch z)⟩
  | some h =>
   refine⟨L1 _,fun p z=>(nomatch z),fun p z=>?_⟩
   cases z
   have:=zC (h2 _ rfl).pos
   refine .inl ?_
   show frR (mkT _ 1,mkB _ 1) < _
   rw [lO,Rat.intCast_sub,show ((1:Int):Rat)=1 from rfl];grind
 | some l =>
  have hl:=h1 _ rfl
  have fl:=zC hl.pos
  cases h with
  | none =>
   refine⟨L1 _,fun p z=>?_,fun p z=>(nomatch z)⟩
   cases z
   refine .inl ?_
   show _ < frR (mkT _ 1,mkB _ 1)
   rw [lO];exact fl.2
  | some h =>
   have hH:=h2 _ rfl
   have c:=hh _ _ rfl rfl
   show Low (nmb (some l) (some h)).1 (nmb (some l) (some h)).2∧(∀ p,some l=some p→frR p < frR (nmb (some l) (some h))∨_∧lb=true)∧(∀ q,some h=some q→frR (nmb (some l) (some h)) < frR q∨_∧hb=true)
   unfold nmb
   simp only
   by_cases k:mkT (l.1.fdiv l.2 + 1) 1 * h.2 < h.1 * mkB (l.1.fdiv l.2 + 1) 1
   ·rw [if_pos k]
    refine⟨L1 _,fun p z=>?_,fun p z=>?_⟩
    ·cases z;rw [lO];exact .inl fl.2
    ·cases z;exact .inl ((hE (L1 _).pos hH.pos).mpr k)
   ·rw [if_neg k]
    by_cases e:l=h
    ·rw [if_pos e]
     subst e
     have:lb=true∧hb=true:=by rcases c with c | c;grind;exact c.2
     exact⟨hl,fun p z=>by cases z;exact .inr ⟨rfl,this.1⟩,fun p z=>by cases z;exact .inr ⟨rfl,this.2⟩⟩
    ·rw [if_neg e]
     have lt:frR l < frR h:=by
      rcases c with c | c
      ·exact c
      ·exact absurd (rq hl hH c.1) e
     have nz:l.2 * h.2≠0:=Int.mul_ne_zero hl.ne hH.ne
     have sl:=el (l.1 * h.2 + h.1 * l.2) nz
     have nz2:mkB (l.1 * h.2 + h.1 * l.2) (l.2 * h.2) * 2≠0:=Int.mul_ne_zero sl.ne (by decide)
     have e1:frR (mkT (l.1 * h.2 + h.1 * l.2) (l.2 * h.2),mkB (l.1 * h.2 + h.1 * l.2) (l.2 * h.2))=frR l + frR h:=by
      rw [ia _ nz,Rat.intCast_add,Rat.intCast_mul,Rat.intCast_mul,Rat.intCast_mul]
      have a1:=fe hl.ne
      have a2:=fe hH.ne
      unfold frR
      grind
     have e2:frR (mkT (mkT (l.1 * h.2 + h.1 * l.2) (l.2 * h.2) * 1) (mkB (l.1 * h.2 + h.1 * l.2) (l.2 * h.2) * 2),mkB (mkT (l.1 * h.2 + h.1 * l.2) (l.2 * h.2) * 1) (mkB (l.1 * h.2 + h.1 * l.2) (l.2 * h.2) * 2))=(frR l + frR h) / 2:=by
      rw [ia _ nz2,← e1,Rat.intCast_mul,Rat.intCast_mul,show ((1:Int):Rat)=1 from rfl,show ((2:Int):Rat)=2 from rfl]
      have a1:=fe sl.ne
      unfold frR
      grind
     refine⟨el _ nz2,fun p z=>?_,fun p z=>?_⟩
     ·cases z;rw [e2];exact .inl (by grind)
     ·cases z;rw [e2];exact .inl (by grind)
end Mf
namespace Mf
open PySem L2 DL
def cnd (nm:List Str) (rows:List Rw) (ks:List Str) (ps:List (Int×Int)) (n:Str) (w:List Int):(Int×Int)×Bool:=(bnd ks ps n (smR nm rows w),!stc (rows.zip w))
def pcs (nm:List Str) (rows:List Rw) (ks:List Str) (ps:List (Int×Int)) (n:Str) (W:List (List Int)):En2×En2 :=
  W.foldl (fun e w =>
    (if 0 < cfs (rows.zip w) n then tgt true e.1 (some (cnd nm rows ks ps n w).1,(cnd nm rows ks ps n w).2) else e.1,
     if cfs (rows.zip w) n < 0 then tgt false e.2 (some (cnd nm rows ks ps n w).1,(cnd nm rows ks ps n w).2) else e.2)) ((none,false),(none,false))
theorem wq {nm:List Str} {rows:List Rw} {ks:List Str} {ps:List (Int×Int)} {n:Str}:∀ (W:List (List Int)),(∀ w∈W,cfs (rows.zip w) n≠0→Low (cnd nm rows ks ps n w).1.1 (cnd nm rows ks ps n w).1.2) →
    Tgt true ((W.filter fun w=>decide (0 < cfs (rows.zip w) n)).map (cnd nm rows ks ps n)) (pcs nm rows ks ps n W).1∧Tgt false ((W.filter fun w=>decide (cfs (rows.zip w) n < 0)).map (cnd nm rows ks ps n)) (pcs nm rows ks ps n W).2:=by
  intro W
  unfold pcs
  have:∀ (W:List (List Int)) (c1 c2:List ((Int×Int)×Bool)) (e:En2×En2),(∀ w∈W,cfs (rows.zip w) n≠0→Low (cnd nm rows ks ps n w).1.1 (cnd nm rows ks ps n w).1.2)→Tgt true c1 e.1→Tgt false c2 e.2 →
      Tgt true (c1++(W.filter fun w=>decide (0 < cfs (rows.zip w) n)).map (cnd nm rows ks ps n)) (W.foldl (fun e w =>
    (if 0 < cfs (rows.zip w) n then tgt true e.1 (some (cnd nm rows ks ps n w).1,(cnd nm rows ks ps n w).2) else e.1,
     if cfs (rows.zip w) n < 0 then tgt false e.2 (some (cnd nm rows ks ps n w).1,(cnd nm rows ks ps n w).2) else e.2)) e).1 ∧
      Tgt false (c2++(W.filter fun w=>decide (cfs (rows.zip w) n < 0)).map (cnd nm rows ks ps n)) (W.foldl (fun e w =>
    (if 0 < cfs (rows.zip w) n then tgt true e.1 (some (cnd nm rows ks ps n w).1,(cnd nm rows ks ps n w).2) else e.1,
     if cfs (rows.zip w) n < 0 then tgt false e.2 (some (cnd nm rows ks ps n w).1,(cnd nm rows ks ps n w).2) else e.2)) e).2:=fun W=>by
    induction W with
    | nil=>intro c1 c2 e _ h1 h2;simpa using ⟨h1,h2⟩
    | cons w W ih =>
      intro c1 c2 e hl h1 h2
      have hl':=fun w h=>hl w (List.mem_cons_of_mem _ h)
      rw [List.foldl_cons]
      by_cases p:0 < cfs (rows.zip w) n
      · have q:¬ cfs (rows.zip w) n < 0:=by omega
        rw [if_pos p,if_neg q,List.filter_cons_of_pos (by simpa using p),List.filter_cons_of_neg (by simpa using q),List.map_cons,List.append_cons]
        exact ih (c1++[cnd nm rows ks ps n w]) c2 (tgt true e.1 (some (cnd nm rows ks ps n w).1,(cnd nm rows ks ps n w).2),e.2) hl' (h1.step (hl w (List.mem_cons_self ..) (by omega))) h2
      · by_cases q:cfs (rows.zip w) n < 0
        · rw [if_neg p,if_pos q,List.filter_cons_of_neg (by simpa using p),List.filter_cons_of_pos (by simpa using q),List.map_cons,List.append_cons]
          exact ih c1 (c2++[cnd nm rows ks ps n w]) (e.1,tgt false e.2 (some (cnd nm rows ks ps n w).1,(cnd nm rows ks ps n w).2)) hl' h1 (h2.step (hl w (List.mem_cons_self ..) (by omega)))
        · rw [if_neg p,if_neg q,List.filter_cons_of_neg (by simpa using p),List.filter_cons_of_neg (by simpa using q)]
          exact ih c1 c2 e hl' h1 h2
  intro h
  simpa using this W [] [] ((none,false),(none,false)) h .nil .nil
theorem se {x:Str→Rat} {n:Str} {v:Rat} (h:x n=0):∀ l:List (Rw×Int),evl (putR x n v) l=evl x l + v * ((cfs l n:Int):Rat)
 | []=>by show (0:Rat)=0 + v * ((0:Int):Rat);rw [show ((0:Int):Rat)=0 from rfl];grind
 | p :: r=>by
  show _ * (sumR (putR x n v) p.1.2.1 - _) + evl (putR x n v) r=_ * (sumR x p.1.2.1 - _) + evl x r + v * ((p.2 * cf p.1.2.1 n + cfs r n:Int):Rat)
  rw [nq h,se h r,Rat.intCast_add,Rat.intCast_mul];grind
theorem An {nm:List Str} {rows:List Rw} (h:Rws nm rows) (x:Str→Rat) (w:List Int):sumR x (smR nm rows w).2.1 - ((smR nm rows w).2.2:Int)=evl x (rows.zip w):=by
 rw [sg (x:=x) h.nd (l:=rows.zip w) fun p hp=>h.sub p.1 (List.of_mem_zip hp).1]
 have e2:sumR x (Mf.smT nm (Mf.cfs (rows.zip w)))=sumN x (Mf.cfs (rows.zip w)) nm:=by
  rw [nL h.nd fun t ht=>?_]
  ·congr 1;exact funext fun n=>(h.smT w).cf n
  ·obtain ⟨n,hn,rfl⟩:=List.mem_map.mp ht
   exact (List.mem_filter.mp hn).1
 show sumR x (Mf.smT nm (Mf.cfs (rows.zip w))) - _=_
 rw [e2];rfl
theorem dz {nm:List Str} {rows:List Rw} (h:Rws nm rows) (w:List Int) (n:Str):cf (smR nm rows w).2.1 n=cfs (rows.zip w) n:=(h.smT w).cf n
theorem jh {nm:List Str} {rows:List Rw} {w:List Int} {t:Str×Int} (ht:t∈(smR nm rows w).2.1):t.1∈nm∧cfs (rows.zip w) t.1≠0∧t.2=cfs (rows.zip w) t.1:=by
 obtain ⟨n,hn,rfl⟩:=List.mem_map.mp ht
 obtain ⟨h1,h2⟩:=List.mem_filter.mp hn
 exact⟨h1,by simpa using h2,rfl⟩
theorem xp {nm:List Str} {rows:List Rw} (H:Rws nm rows) {n:Str} {ns:List Str} {x:Str→Rat} (hso:∀ w∈stW rows (n :: ns),soR x (smR nm rows w)) {l h:List Int} (hl:l∈stW rows ns) (hh:h∈stW rows ns)
    (cl:0 < cfs (rows.zip l) n) (ch:cfs (rows.zip h) n < 0) :
    -(evl x (rows.zip l)) / ((cfs (rows.zip l) n:Int):Rat) < -(evl x (rows.zip h)) / ((cfs (rows.zip h) n:Int):Rat) ∨
      (-(evl x (rows.zip l)) / ((cfs (rows.zip l) n:Int):Rat)=-(evl x (rows.zip h)) / ((cfs (rows.zip h) n:Int):Rat)∧stc (rows.zip l)=false∧stc (rows.zip h)=false):=by
  obtain ⟨wl,al⟩:=ci hl
  obtain ⟨wh,ah⟩:=ci hh
  have nl:=sB wl.len wl.nn
  have nh:=sB wh.len wh.nn
  have c1:(0:Rat) < ((cfs (rows.zip l) n:Int):Rat):=iX cl
  have c2:((cfs (rows.zip h) n:Int):Rat) < 0:=by have:=Rat.intCast_lt_intCast.mpr ch;simpa using this
  have key:=nN (rows:=rows) (n :: ns) (fun _=>True) (eV x rows) (fun s hs _=>by
    obtain ⟨w,hw,rfl⟩:=List.mem_map.mp hs
    exact (yg H (ci hw).1.len).mp (hso w hw)) (fun i=>-((cfs (rows.zip h) n:Int):Rat) * toV l i + ((cfs (rows.zip l) n:Int):Rat) * toV h i)
    ⟨fun i=>by
      have a1:=Rat.mul_nonneg (a:=-((cfs (rows.zip h) n:Int):Rat)) (b:=toV l i) (by grind) (nl.pos i)
      have a2:=Rat.mul_nonneg (a:=((cfs (rows.zip l) n:Int):Rat)) (b:=toV h i) (by grind) (nh.pos i)
      grind,fun i hi=>by rw [nl.top i hi,nh.top i hi];grind⟩
    (fun c hc=>by
      obtain ⟨k,hk,rfl⟩:=List.mem_map.mp hc
      rw [dr,← jA wl.len,← jA wh.len]
      rcases List.mem_cons.mp hk with rfl | hk
      · grind
      · rw [al k hk,ah k hk,show ((0:Int):Rat)=0 from rfl];grind) (fun _ _=>trivial)
  unfold sat at key
  rw [dr,← i4 wl.len,← i4 wh.len] at key
  generalize evl x (rows.zip l)=L at *
  generalize evl x (rows.zip h)=R at *
  generalize hcl:((cfs (rows.zip l) n:Int):Rat)=a at *
  generalize hch:((cfs (rows.zip h) n:Int):Rat)=b at *
  have e1:-b * L + a * R=((-R / b) - (-L / a)) * (a * (-b)):=by grind
  have pp:=Rat.mul_pos (a:=a) (b:=-b) c1 (by grind)
  rw [e1] at key
  rcases key with k | ⟨k,st⟩
  · refine .inl (Classical.byContradiction fun z=>?_)
    have:=Rat.mul_nonneg (a:=(-L / a) - (-R / b)) (b:=a * -b) (by grind) (by grind)
    grind
  · refine .inr ⟨by rcases Rat.mul_eq_zero.mp k with q | q<;>grind,(m9 wl.len).mpr fun i hi hp=>st i hi ?_,(m9 wh.len).mpr fun i hi hp=>st i hi ?_⟩
    · have a1:=Rat.mul_pos (a:=-b) (b:=toV l i) (by grind) hp
      have a2:=Rat.mul_nonneg (a:=a) (b:=toV h i) (by grind) (nh.pos i)
      grind
    · have a1:=Rat.mul_nonneg (a:=-b) (b:=toV l i) (by grind) (nl.pos i)
      have a2:=Rat.mul_pos (a:=a) (b:=toV h i) c1 hp
      grind
theorem back {nm:List Str} {rows:List Rw} (H:Rws nm rows) {n:Str} {ns ks:List Str} {ps:List (Int×Int)} (hso:∀ w∈stW rows (n :: ns),soR (ptR ks ps) (smR nm rows w)) (h0:ptR ks ps n=0)
  (hp:∀ w∈stW rows ns,∀ t∈(smR nm rows w).2.1,t.1≠n→0 < pB ks ps t.1) :
  Low (nmb (pcs nm rows ks ps n (stW rows ns)).1.1 (pcs nm rows ks ps n (stW rows ns)).2.1).1 (nmb (pcs nm rows ks ps n (stW rows ns)).1.1 (pcs nm rows ks ps n (stW rows ns)).2.1).2 ∧
   ∀ w∈stW rows ns,soR (putR (ptR ks ps) n (frR (nmb (pcs nm rows ks ps n (stW rows ns)).1.1 (pcs nm rows ks ps n (stW rows ns)).2.1))) (smR nm rows w):=by
 have bo:∀ w∈stW rows ns,cfs (rows.zip w) n≠0→Low (cnd nm rows ks ps n w).1.1 (cnd nm rows ks ps n w).1.2∧frR (cnd nm rows ks ps n w).1=-(evl (ptR ks ps) (rows.zip w)) / ((cfs (rows.zip w) n:Int):Rat):=fun w hw hc=>by
  have:=yb (hp w hw) h0 (by rw [dz H];exact hc)
  rw [An H,dz H] at this
  exact this
 obtain ⟨T1,T2⟩:=wq (nm:=nm) (rows:=rows) (ks:=ks) (ps:=ps) (n:=n) (stW rows ns) fun w hw hc=>(bo w hw hc).1
 generalize pcs nm rows ks ps n (stW rows ns)=e at *
 obtain ⟨lo,hi⟩:=e
 simp only at *
 have at1:∀ p,lo.1=some p→∃ l∈stW rows ns,0 < cfs (rows.zip l) n∧p=(cnd nm rows ks ps n l).1∧lo.2=!stc (rows.zip l):=fun p hp=>by
  obtain ⟨_,⟨c,hc,e1,e2⟩,_⟩:=T1.so p hp
  obtain ⟨l,hl,rfl⟩:=List.mem_map.mp hc
  obtain ⟨hl1,hl2⟩:=List.mem_filter.mp hl
  exact⟨l,hl1,by simpa using hl2,e1.symm,e2.symm⟩
 have at2:∀ p,hi.1=some p→∃ l∈stW rows ns,cfs (rows.zip l) n < 0∧p=(cnd nm rows ks ps n l).1∧hi.2=!stc (rows.zip l):=fun p hp=>by
  obtain ⟨_,⟨c,hc,e1,e2⟩,_⟩:=T2.so p hp
  obtain ⟨l,hl,rfl⟩:=List.mem_map.mp hc
  obtain ⟨hl1,hl2⟩:=List.mem_filter.mp hl
  exact⟨l,hl1,by simpa using hl2,e1.symm,e2.symm⟩
 obtain ⟨low,v1,v2⟩:=zg (lo:=lo) (hi:=hi) (fun p h=>(T1.so p h).1) (fun p h=>(T2.so p h).1) fun p q hp hq=>by
  obtain ⟨l,hl,cl,rfl,sl⟩:=at1 p hp
  obtain ⟨h,hh,ch,rfl,sh⟩:=at2 q hq
  rw [(bo l hl (by omega)).2,(bo h hh (by omega)).2]
  rcases xp H hso hl hh cl ch with k | ⟨k1,k2,k3⟩
  ·exact .inl k
  ·exact .inr ⟨k1,by rw [sl,k2];rfl,by rw [sh,k3];rfl⟩
 refine⟨low,fun w hw=>?_⟩
 rw [qm H,se h0]
 generalize frR (nmb lo.1 hi.1)=v at *
 rcases Int.lt_trichotomy (cfs (rows.zip w) n) 0 with c | c | c
 ·obtain ⟨_,b2⟩:=bo w hw (by omega)
  have cr:((cfs (rows.zip w) n:Int):Rat) < 0:=by have:=Rat.intCast_lt_intCast.mpr c;simpa using this
  have hm:cnd nm rows ks ps n w∈((stW rows ns).filter fun w=>decide (cfs (rows.zip w) n < 0)).map (cnd nm rows ks ps n):=List.mem_map.mpr ⟨w,List.mem_filter.mpr ⟨hw,by simpa using c⟩,rfl⟩
  cases hlo:hi.1 with
  | none=>rw [T2.nn hlo] at hm;cases hm
  | some p =>
   have vv:=v2 p hlo
   have key:v < frR (cnd nm rows ks ps n w).1∨(v=frR (cnd nm rows ks ps n w).1∧stc (rows.zip w)=false):=by
    rcases (T2.so p hlo).2.2 _ hm with ⟨z1,z2⟩ | ⟨_,z⟩
    ·rw [z1]
     refine vv.imp id fun ⟨y1,y2⟩=>⟨y1,?_⟩
     have:(!stc (rows.zip w))=true:=z2 y2
     simpa using this
    ·simp only [Bool.false_eq_true,if_false] at z
     exact .inl (by grind)
   rw [b2] at key
   generalize evl (ptR ks ps) (rows.zip w)=L at *
   generalize ((cfs (rows.zip w) n:Int):Rat)=a at *
   have e1:L + v * a=((-L / a) - v) * (-a):=by grind
   rw [e1]
   rcases key with k | k
   ·exact .inl (Rat.mul_pos (by grind) (by grind))
   ·exact .inr ⟨by rw [← k.1];grind,k.2⟩
 ·have:=hso w (gI.mpr (.inl ⟨hw,c⟩))
  rw [qm H] at this
  rw [c,show ((0:Int):Rat)=0 from rfl]
  have e:evl (ptR ks ps) (rows.zip w) + v * 0=evl (ptR ks ps) (rows.zip w):=by grind
  rw [e]
  exact this
 ·obtain ⟨_,b2⟩:=bo w hw (by omega)
  have cr:(0:Rat) < ((cfs (rows.zip w) n:Int):Rat):=iX c
  have hm:cnd nm rows ks ps n w∈((stW rows ns).filter fun w=>decide (0 < cfs (rows.zip w) n)).map (cnd nm rows ks ps n):=List.mem_map.mpr ⟨w,List.mem_filter.mpr ⟨hw,by simpa using c⟩,rfl⟩
  cases hlo:lo.1 with
  | none=>rw [T1.nn hlo] at hm;cases hm
  | some p =>
   have vv:=v1 p hlo
   have key:frR (cnd nm rows ks ps n w).1 < v∨(frR (cnd nm rows ks ps n w).1=v∧stc (rows.zip w)=false):=by
    rcases (T1.so p hlo).2.2 _ hm with ⟨z1,z2⟩ | ⟨_,z⟩
    ·rw [z1]
     refine vv.imp id fun ⟨y1,y2⟩=>⟨y1,?_⟩
     have:(!stc (rows.zip w))=true:=z2 y2
     simpa using this
    ·simp only [if_true] at z
     exact .inl (by grind)
   rw [b2] at key
   generalize evl (ptR ks ps) (rows.zip w)=L at *
   generalize ((cfs (rows.zip w) n:Int):Rat)=a at *
   have e1:L + v * a=(v - (-L / a)) * a:=by grind
   rw [e1]
   rcases key with k | k
   ·exact .inl (Rat.mul_pos (by grind) (by grind))
   ·exact .inr ⟨by rw [← k.1];grind,k.2⟩
def fbk (nm:List Str) (rows:List Rw):List Str→List Str→List (Int×Int)→List (Int×Int)
 | [],_,ps=>ps
 | n :: ns,ks,ps=>fbk nm rows ns (ks++[n]) (ps++[nmb (pcs nm rows ks ps n (stW rows ns)).1.1 (pcs nm rows ks ps n (stW rows ns)).2.1])
theorem nw {α:Type} {n k:Str} {v:α}:∀ {ks:List Str} {ps:List α},ps.length=ks.length→n∉ks→dAt (ks++[n]) (ps++[v]) k=if k=n then some v else dAt ks ps k
 | [],[],_,_=>by
  show (if n=k then some v else dAt [] [] k)=if k=n then some v else none
  by_cases e:n=k
  ·rw [if_pos e,if_pos e.symm]
  ·rw [if_neg e,if_neg fun z=>e z.symm];rfl
 | x :: ks,p :: ps,h,hn=>by
  rw [List.mem_cons,not_or] at hn
  show (if x=k then some p else dAt (ks++[n]) (ps++[v]) k)=_
  rw [nw (by simpa using h) hn.2]
  by_cases e:x=k
  ·rw [if_pos e,if_neg fun z=>hn.1 (z.symm.trans e.symm)]
   show _=if x=k then some p else dAt ks ps k
   rw [if_pos e]
  ·rw [if_neg e]
   show _=if k=n then some v else if x=k then some p else dAt ks ps k
   rw [if_neg e]
theorem fj {n k:Str} {v:Int×Int} {ks:List Str} {ps:List (Int×Int)} (h:ps.length=ks.length) (hn:n∉ks):ptOf (ks++[n]) (ps++[v]) k=if k=n then v else ptOf ks ps k:=by
 unfold ptOf
 rw [nw h hn]
 by_cases e:k=n
 ·rw [if_pos e,if_pos e];rfl
 ·rw [if_neg e,if_neg e]
theorem mK {n:Str} {v:Int×Int} {ks:List Str} {ps:List (Int×Int)} (h:ps.length=ks.length) (hn:n∉ks):ptR (ks++[n]) (ps++[v])=putR (ptR ks ps) n (frR v):=by
 funext k
 unfold ptR putR
 rw [fj h hn]
 by_cases e:k=n
 ·rw [if_pos e,if_pos e]
 ·rw [if_neg e,if_neg e]
theorem ui {n:Str} {ks:List Str} {ps:List (Int×Int)} (h:n∉ks):ptOf ks ps n=(0,1):=by
 unfold ptOf
 rw [lS h];rfl
theorem sH {n:Str} {ks:List Str} {ps:List (Int×Int)} (h:n∉ks):ptR ks ps n=0:=by
 unfold ptR frR
 rw [ui h,show ((((0,1):Int×Int).1:Int):Rat)=0 from rfl];grind
theorem vk {nm:List Str} {rows:List Rw} (H:Rws nm rows):∀ (ns ks:List Str) (ps:List (Int×Int)),ps.length=ks.length→(∀ p∈ps,Low p.1 p.2)→(ks++ns).Nodup→(∀ n∈nm,n∈ks∨n∈ns)→(∀ w∈stW rows ns,soR (ptR ks ps) (smR nm rows w)) →
  (fbk nm rows ns ks ps).length=(ks++ns).length∧(∀ p∈fbk nm rows ns ks ps,Low p.1 p.2)∧ps <+: fbk nm rows ns ks ps∧∀ w∈stW rows [],soR (ptR (ks++ns) (fbk nm rows ns ks ps)) (smR nm rows w)
 | [],ks,ps,hl,lo,nd,hm,hs=>by
  rw [List.append_nil]
  exact⟨hl,lo,List.prefix_refl _,hs⟩
 | n :: ns,ks,ps,hl,lo,nd,hm,hs=>by
  have nd':(ks++[n]++ns).Nodup:=by simpa using nd
  have hn:n∉ks:=fun z=>by
   have:=(List.nodup_append.mp nd).2.2 n z n (List.mem_cons_self ..)
   exact this rfl
  have hp:∀ w∈stW rows ns,∀ t∈(smR nm rows w).2.1,t.1≠n→0 < pB ks ps t.1:=fun w hw t ht hne=>by
   obtain ⟨h1,h2,_⟩:=jh ht
   have:t.1∈ks:=by
    rcases hm t.1 h1 with z | z
    ·exact z
    ·rcases List.mem_cons.mp z with z | z
     ·exact absurd z hne
     ·exact absurd ((ci hw).2 _ z) h2
   have P:Pt ks ps (ps.foldl (fun a p=>a + Builtin.Int.intBits p.1 + Builtin.Int.intBits p.2) 0):=⟨hl,lo,fun p hp=>?_,fun p hp=>?_⟩
   ·exact P.pos this
   ·exact (bits_fold ps 0 p hp).1
   ·exact (bits_fold ps 0 p hp).2
  obtain ⟨b1,b2⟩:=back H hs (sH hn) hp
  obtain ⟨c1,c2,c3,c4⟩:=vk H ns (ks++[n]) (ps++[_]) (by simp [hl]) (fun p hp=>(List.mem_append.mp hp).elim (lo p) fun z=>by rw [List.mem_singleton.mp z];exact b1) nd' (fun k hk=>by
   rcases hm k hk with z | z
   ·exact .inl (List.mem_append_left _ z)
   ·rcases List.mem_cons.mp z with z | z
    ·exact .inl (List.mem_append_right _ (List.mem_singleton.mpr z))
    ·exact .inr z) (fun w hw=>by rw [mK hl hn];exact b2 w hw)
  have e:ks++n :: ns=ks++[n]++ns:=by simp
  rw [e]
  exact⟨c1,c2,(List.prefix_append ..).trans c3,c4⟩
where
 bits_fold:∀ (l:List (Int×Int)) (a:Nat),∀ p∈l,Builtin.Int.intBits p.1≤l.foldl (fun a p=>a + Builtin.Int.intBits p.1 + Builtin.Int.intBits p.2) a∧Builtin.Int.intBits p.2≤l.foldl (fun a p=>a + Builtin.Int.intBits p.1 + Builtin.Int.intBits p.2) a
  | q :: l,a,p,h=>by
   rw [List.foldl_cons]
   have mono:∀ (l:List (Int×Int)) (a:Nat),a≤l.foldl (fun a p=>a + Builtin.Int.intBits p.1 + Builtin.Int.intBits p.2) a:=fun l=>by
    induction l with
    | nil=>intro a;exact Nat.le_refl a
    | cons q l ih=>intro a;rw [List.foldl_cons];exact Nat.le_trans (by omega) (ih _)
   rcases List.mem_cons.mp h with rfl | h
   ·have:=mono l (a + Builtin.Int.intBits p.1 + Builtin.Int.intBits p.2)
    omega
   ·exact bits_fold l _ p h
theorem ni {nm:List Str} {rows:List Rw} (H:Rws nm rows) {j:Nat} {r:Rw} (hj:rows[j]?=some r):smR nm rows (unW rows.length j)=r:=by
 have hr:=List.mem_of_getElem? hj
 have hlt:j < rows.length:=(List.getElem?_eq_some_iff.mp hj).1
 have z:∀ {i:Nat} {rs:List Rw} (k:Nat),k + rs.length≤i→∀ n,cfs (rs.zip ((List.range' k rs.length).map fun x=>if x=i then (1:Int) else 0)) n=0∧bds (rs.zip ((List.range' k rs.length).map fun x=>if x=i then (1:Int) else 0))=0∧stc (rs.zip ((List.range' k rs.length).map fun x=>if x=i then (1:Int) else 0))=false:=fun {i rs}=>by
  induction rs with
  | nil=>intro k _ n;exact⟨rfl,rfl,rfl⟩
  | cons a rs ih =>
   intro k hk n
   rw [List.length_cons] at hk
   obtain ⟨i1,i2,i3⟩:=ih (k + 1) (by omega) n
   rw [List.length_cons,List.range'_succ,List.map_cons,if_neg (by omega)]
   refine⟨?_,?_,?_⟩
   ·show 0 * cf a.2.1 n + cfs (rs.zip _) n=0
    rw [i1];omega
   ·show 0 * a.2.2 + bds (rs.zip _)=0
    rw [i2];omega
   ·show ((isM a.1 && decide ((0:Int) < 0)) || stc (rs.zip _))=false
    rw [i3];simp
 have z2:∀ {i:Nat} {rs:List Rw} (k:Nat),i < k→∀ n,cfs (rs.zip ((List.range' k rs.length).map fun x=>if x=i then (1:Int) else 0)) n=0∧bds (rs.zip ((List.range' k rs.length).map fun x=>if x=i then (1:Int) else 0))=0∧stc (rs.zip ((List.range' k rs.length).map fun x=>if x=i then (1:Int) else 0))=false:=fun {i rs}=>by
  induction rs with
  | nil=>intro k _ n;exact⟨rfl,rfl,rfl⟩
  | cons a rs ih =>
   intro k hk n
   obtain ⟨i1,i2,i3⟩:=ih (k + 1) (by omega) n
   rw [List.length_cons,List.range'_succ,List.map_cons,if_neg (by omega)]
   refine⟨?_,?_,?_⟩
   ·show 0 * cf a.2.1 n + cfs (rs.zip _) n=0
    rw [i1];omega
   ·show 0 * a.2.2 + bds (rs.zip _)=0
    rw [i2];omega
   ·show ((isM a.1 && decide ((0:Int) < 0)) || stc (rs.zip _))=false
    rw [i3];simp
 have key:∀ {rs:List Rw} (k i:Nat),rs[i]?=some r→∀ n,cfs (rs.zip ((List.range' k rs.length).map fun x=>if x=k + i then (1:Int) else 0)) n=cf r.2.1 n∧bds (rs.zip ((List.range' k rs.length).map fun x=>if x=k + i then (1:Int) else 0))=r.2.2∧stc (rs.zip ((List.range' k rs.length).map fun x=>if x=k + i then (1:Int) else 0))=isM r.1:=fun {rs}=>by
  induction rs with
  | nil=>intro k i h;cases h
  | cons a rs ih =>
   intro k i h n
   rw [List.length_cons,List.range'_succ,List.map_cons]
   cases i with
   | zero =>
    cases h
    obtain ⟨i1,i2,i3⟩:=z2 (i:=k) (rs:=rs) (k + 1) (by omega) n
    rw [if_pos (by omega)]
    refine⟨?_,?_,?_⟩
    ·show 1 * cf r.2.1 n + cfs (rs.zip _) n=_
     rw [Nat.add_zero,i1];omega
    ·show 1 * r.2.2 + bds (rs.zip _)=_
     rw [Nat.add_zero,i2];omega
    ·show ((isM r.1 && decide ((0:Int) < 1)) || stc (rs.zip _))=_
     rw [Nat.add_zero,i3];simp
   | succ i =>
    obtain ⟨i1,i2,i3⟩:=ih (k + 1) i h n
    rw [if_neg (by omega),show k + (i + 1)=k + 1 + i by omega]
    refine⟨?_,?_,?_⟩
    ·show 0 * cf a.2.1 n + cfs (rs.zip _) n=_
     rw [i1];omega
    ·show 0 * a.2.2 + bds (rs.zip _)=_
     rw [i2];omega
    ·show ((isM a.1 && decide ((0:Int) < 0)) || stc (rs.zip _))=_
     rw [i3];simp
 have k0:=key (rs:=rows) 0 j hj
 have e:unW rows.length j=(List.range' 0 rows.length).map fun x=>if x=0 + j then (1:Int) else 0:=by unfold unW;rw [List.range_eq_range',Nat.zero_add]
 rw [← e] at k0
 have f1:(fun n=>cfs (rows.zip (unW rows.length j)) n)=cf r.2.1:=funext fun n=>(k0 n).1
 have s1:=H.smT (unW rows.length j)
 unfold smR
 have t1:Mf.smT nm (Mf.cfs (rows.zip (unW rows.length j)))=r.2.1:=by
  have f2:Mf.cfs (rows.zip (unW rows.length j))=cf r.2.1:=f1
  rw [f2] at s1 ⊢
  exact s1.uniq (H.sum r hr)
 rw [t1,(k0 "").2.1,(k0 "").2.2]
 obtain ⟨k,ts,b⟩:=r
 cases k<;>rfl
end Mf
namespace Mf
open PySem L2 DL
abbrev ib (x:Int):Nat:=Builtin.Int.intBits x
def wb (B m:Nat):Nat→Nat
 | 0=>1
 | k + 1=>2 * wb B m k + B + m + 1
def cb (B m k:Nat):Nat:=wb B m k + B + m
structure RwB (B:Nat) (rows:List Rw):Prop where
 tm:∀ r∈rows,∀ t∈r.2.1,ib t.2≤B
 bd:∀ r∈rows,ib r.2.2≤B
theorem ib0:ib 0=0:=by decide
theorem rj {ts:List (Str×Int)} {n:Str} {B:Nat} (nd:(ts.map (·.1)).Nodup) (h:∀ t∈ts,ib t.2≤B):ib (cf ts n)≤B:=by
 by_cases e:n∈ts.map (·.1)
 ·obtain ⟨t,ht,rfl⟩:=List.mem_map.mp e
  rw [jX nd ht];exact h t ht
 ·rw [iy e,ib0];exact Nat.zero_le _
theorem mX {B W:Nat} {n:Str}:∀ {l:List (Rw×Int)},(∀ p∈l,ib (cf p.1.2.1 n)≤B∧ib p.2≤W)→ib (cfs l n)≤W + B + l.length
 | [],_=>by show ib 0≤_;rw [ib0];omega
 | p :: r,h=>by
  have h1:=h p (List.mem_cons_self ..)
  have:=intBits_add_le (intBits_mul_le h1.2 h1.1) (mX (B:=B) (W:=W) (n:=n) fun q hq=>h q (List.mem_cons_of_mem _ hq))
  show ib (p.2 * cf p.1.2.1 n + cfs r n)≤_
  rw [List.length_cons]
  unfold ib
  omega
theorem nE {B W:Nat}:∀ {l:List (Rw×Int)},(∀ p∈l,ib p.1.2.2≤B∧ib p.2≤W)→ib (bds l)≤W + B + l.length
 | [],_=>by show ib 0≤_;rw [ib0];omega
 | p :: r,h=>by
  have h1:=h p (List.mem_cons_self ..)
  have:=intBits_add_le (intBits_mul_le h1.2 h1.1) (nE (B:=B) (W:=W) fun q hq=>h q (List.mem_cons_of_mem _ hq))
  show ib (p.2 * p.1.2.2 + bds r)≤_
  rw [List.length_cons]
  unfold ib
  omega
section
variable {nm:List Str} {rows:List Rw} {B:Nat}
theorem Rws.cfb (H:Rws nm rows) (hb:RwB B rows) {w:List Int} {W:Nat} (hw:∀ a∈w,ib a≤W) (n:Str):ib (Mf.cfs (rows.zip w) n)≤W + B + rows.length:=by
 refine Nat.le_trans (mX (B:=B) (W:=W) fun p hp=>⟨rj (H.sum _ (List.of_mem_zip hp).1).nd (hb.tm _ (List.of_mem_zip hp).1),hw _ (List.of_mem_zip hp).2⟩) ?_
 rw [List.length_zip];omega
theorem Rws.bdb (hb:RwB B rows) {w:List Int} {W:Nat} (hw:∀ a∈w,ib a≤W):ib (Mf.bds (rows.zip w))≤W + B + rows.length:=by
 refine Nat.le_trans (nE (B:=B) (W:=W) fun p hp=>⟨hb.bd _ (List.of_mem_zip hp).1,hw _ (List.of_mem_zip hp).2⟩) ?_
 rw [List.length_zip];omega
theorem qX {a b:Int} {W C:Nat} (ha:ib a≤C) (hb:ib b≤C):∀ {l h:List Int},(∀ x∈l,ib x≤W)→(∀ x∈h,ib x≤W)→∀ x∈List.zipWith (fun x y=>x * a + y * b) l h,ib x≤W + C + 1
 | [],_,_,_,x,hx=>by simp at hx
 | _ :: _,[],_,_,x,hx=>by simp at hx
 | u :: l,v :: h,h1,h2,x,hx=>by
  rw [List.zipWith_cons_cons] at hx
  rcases List.mem_cons.mp hx with rfl | hx
  ·have:=intBits_add_le (intBits_mul_le (h1 u (List.mem_cons_self ..)) ha) (intBits_mul_le (h2 v (List.mem_cons_self ..)) hb)
   unfold ib;omega
  ·exact qX ha hb (fun x hx=>h1 x (List.mem_cons_of_mem _ hx)) (fun x hx=>h2 x (List.mem_cons_of_mem _ hx)) x hx
theorem qI {B m k:Nat}:wb B m k≤wb B m (k + 1):=by
 show wb B m k≤2 * wb B m k + B + m + 1
 omega
theorem jC (H:Rws nm rows) (hb:RwB B rows) {n:Str} {l h:List Int} {k:Nat} (hl:∀ a∈l,ib a≤wb B rows.length k) (hh:∀ a∈h,ib a≤wb B rows.length k):∀ a∈crS rows n l h,ib a≤wb B rows.length (k + 1):=fun a ha=>by
 have:=qX (C:=cb B rows.length k) (intBits_neg_le (H.cfb hb hh n)) (H.cfb hb hl n) hl hh a ha
 show ib a≤2 * wb B rows.length k + B + rows.length + 1
 unfold cb at this
 omega
theorem cO (H:Rws nm rows) (hb:RwB B rows):∀ {ns:List Str} {w:List Int},w∈stW rows ns→∀ a∈w,ib a≤wb B rows.length ns.length
 | [],w,h,a,ha=>by
  obtain ⟨j,hj,rfl⟩:=List.mem_map.mp h
  obtain ⟨i,_,rfl⟩:=List.mem_map.mp ha
  show ib _≤1
  split<;>decide
 | n :: ns,w,h,a,ha=>by
  rw [List.length_cons]
  rcases gI.mp h with ⟨h1,h2⟩ | ⟨l,hl,cl,k,hk,ck,rfl,_⟩
  ·exact Nat.le_trans (cO H hb h1 a ha) qI
  ·obtain ⟨b,hb',rfl⟩:=List.mem_map.mp ha
   exact intBits_fdiv_le (jC H hb (cO H hb hl) (cO H hb hk) b hb')
end
theorem zab {z a b c:Nat} (h1:z + a + b≤c) (h4:4≤c):z + a * b≤c * c / 4:=by
 refine (Nat.le_div_iff_mul_le (by decide)).mpr ?_
 have e1:4 * (a * b)≤(a + b) * (a + b):=by
  have:(a + b) * (a + b)=a * a + 2 * (a * b) + b * b:=by rw [Nat.add_mul,Nat.mul_add,Nat.mul_add,Nat.mul_comm b a];omega
  rcases Nat.le_total a b with q | q
  ·obtain ⟨d,rfl⟩:=Nat.exists_eq_add_of_le q
   have e:(a + d) * (a + d)=a * a + 2 * (a * d) + d * d:=by rw [Nat.add_mul,Nat.mul_add,Nat.mul_add,Nat.mul_comm d a];omega
   have e':a * (a + d)=a * a + a * d:=Nat.mul_add ..
   omega
  ·obtain ⟨d,rfl⟩:=Nat.exists_eq_add_of_le q
   have e:(b + d) * (b + d)=b * b + 2 * (b * d) + d * d:=by rw [Nat.add_mul,Nat.mul_add,Nat.mul_add,Nat.mul_comm d b];omega
   have e':(b + d) * b=b * b + b * d:=by rw [Nat.add_mul,Nat.mul_comm d b]
   omega
 have e2:(a + b) * (a + b) + 4 * z≤c * c:=by
  obtain ⟨t,ht⟩:=Nat.exists_eq_add_of_le (show a + b + z≤c by omega)
  have hs:c * c=(a + b) * (a + b) + (z + t) * (a + b + c):=by
   have:c=(a + b) + (z + t):=by omega
   generalize hx:a + b=x at *
   generalize hy:z + t=y at *
   subst this
   grind
  rw [hs]
  have:(z + t) * (a + b + c) ≥ z * 4:=Nat.mul_le_mul (by omega) (by omega)
  omega
 omega
theorem cnt3 {rows:List Rw} {n:Str}:∀ W:List (List Int),(W.filter fun w=>decide (cfs (rows.zip w) n=0)).length + (W.filter fun w=>decide (0 < cfs (rows.zip w) n)).length + (W.filter fun w=>decide (cfs (rows.zip w) n < 0)).length=W.length
 | []=>rfl
 | w :: W=>by
  have ih:=cnt3 (rows:=rows) (n:=n) W
  rcases Int.lt_trichotomy (cfs (rows.zip w) n) 0 with q | q | q
  ·rw [List.filter_cons_of_neg (by simp;omega),List.filter_cons_of_neg (by simp;omega),List.filter_cons_of_pos (by simpa using q),List.length_cons,List.length_cons];omega
  ·rw [List.filter_cons_of_pos (by simpa using q),List.filter_cons_of_neg (by simp;omega),List.filter_cons_of_neg (by simp;omega),List.length_cons,List.length_cons];omega
  ·rw [List.filter_cons_of_neg (by simp;omega),List.filter_cons_of_pos (by simpa using q),List.filter_cons_of_neg (by simp;omega),List.length_cons,List.length_cons];omega
theorem i8 {rows:List Rw} {n:Str} {most:Nat} (R:List (List Int)):∀ L:List (List Int),(L.flatMap fun l=>(R.map (crW rows n l)).filter fun u=>decide (usd u≤most)).length≤L.length * R.length
 | []=>by simp
 | l :: L=>by
  have ih:=i8 (rows:=rows) (n:=n) (most:=most) R L
  rw [List.flatMap_cons,List.length_append,List.length_cons,Nat.succ_mul]
  have:=List.length_filter_le (fun u=>decide (usd u≤most)) (R.map (crW rows n l))
  rw [List.length_map] at this
  omega
theorem sQ {rows:List Rw} {n:Str} {most:Nat} {W:List (List Int)} {c:Nat} (h:W.length≤c) (h4:4≤c):(woW rows n most W).length≤c * c / 4:=by
 unfold woW
 rw [List.length_append]
 have h1:=cnt3 (rows:=rows) (n:=n) W
 have h2:=i8 (rows:=rows) (n:=n) (most:=most) (W.filter fun w=>decide (cfs (rows.zip w) n < 0)) (W.filter fun w=>decide (0 < cfs (rows.zip w) n))
 exact Nat.le_trans (Nat.add_le_add_left h2 _) (zab (by omega) h4)
def cnt:Nat→Nat→Nat
 | c,0=>c
 | c,k + 1=>cnt c k * cnt c k / 4
theorem qQ {rows:List Rw} {c:Nat} (h:rows.length≤c) (h4:4≤c):∀ ns:List Str,(stW rows ns).length≤cnt c ns.length∧4≤cnt c ns.length
 | []=>⟨by show (unWs rows.length).length≤c;unfold unWs;rw [List.length_map,List.length_range];exact h,h4⟩
 | n :: ns=>by
  obtain ⟨h1,h2⟩:=qQ h h4 ns
  refine⟨sQ h1 h2,?_⟩
  show 4≤cnt c ns.length * cnt c ns.length / 4
  refine (Nat.le_div_iff_mul_le (by decide)).mpr ?_
  exact Nat.mul_le_mul h2 h2
theorem mz {p q N z:Int} (h:Low p q) (e:((N:Int):Rat) * frR (p,q)=(z:Int)):q ∣ N:=by
 have hq:=fe h.ne
 have e2:((N * p:Int):Rat)=((z * q:Int):Rat):=by
  rw [Rat.intCast_mul,Rat.intCast_mul,← e]
  show _=((N:Int):Rat) * (((p:Int):Rat) / ((q:Int):Rat)) * _
  grind
 have e3:N * p=z * q:=Rat.intCast_inj.mp e2
 have d:q ∣ p * N:=⟨z,by rw [Int.mul_comm p,e3,Int.mul_comm]⟩
 have g:Int.gcd q p=1:=by rw [Int.gcd_comm];exact h.cop'
 have k:=(Int.dvd_gcd_mul_iff_dvd_mul (k:=q) (n:=p) (m:=N)).mpr d
 rw [g] at k
 simpa using k
theorem d8 {a b:Int} {n:Nat} (h:a ∣ b) (h0:b≠0) (hb:ib b≤n):ib a≤n:=intBits_le_of_natAbs (Nat.le_of_dvd (by omega) (Int.natAbs_dvd_natAbs.mpr h)) hb
theorem lY {q:Str→Int}:∀ {l ks:List Str},l.Nodup→(∀ n∈l,n∈ks)→bot q l ∣ bot q ks
 | [],ks,_,_=>⟨bot q ks,(Int.one_mul _).symm⟩
 | n :: l,ks,nd,h=>by
  obtain ⟨h1,h2⟩:=List.nodup_cons.mp nd
  have hn:=h n (List.mem_cons_self ..)
  have e:bot q ks=q n * bot q (ks.erase n):=uw (List.perm_cons_erase hn)
  have:=lY (q:=q) (l:=l) (ks:=ks.erase n) h2 fun k hk=>(List.mem_erase_of_ne (fun (z:k=n)=>h1 (z ▸ hk))).mpr (h k (List.mem_cons_of_mem _ hk))
  rw [e]
  exact Int.mul_dvd_mul (Int.dvd_refl _) this
theorem kw {q q':Str→Int}:∀ {l:List Str},(∀ n∈l,q n=q' n)→bot q l=bot q' l
 | [],_=>rfl
 | n :: l,h=>by show q n * _=q' n * _;rw [h n (List.mem_cons_self ..),kw fun k hk=>h k (List.mem_cons_of_mem _ hk)]
theorem fT {f:Str→Int} {c m:Nat}:∀ {ts:List (Str×Int)},(∀ t∈ts,ib t.2≤c∧ib (f t.1)≤m)→ib (sumT f ts)≤c + m + ts.length
 | [],_=>by show ib 0≤_;rw [ib0];omega
 | t :: r,h=>by
  have h1:=h t (List.mem_cons_self ..)
  have h2:=intBits_add_le (intBits_mul_le h1.1 h1.2) (fT (c:=c) (m:=m) fun u hu=>h u (List.mem_cons_of_mem _ hu))
  show ib (t.2 * f t.1 + sumT f r)≤_
  rw [List.length_cons]
  unfold ib
  omega
structure lj (L:Int) (c g κ T:Nat) (p:Int×Int):Prop where
 low:Low p.1 p.2
 bb:ib p.2≤c + g
 tb:ib p.1≤c + T + κ + 70
 wh:∃ N z:Int,N≠0∧ib N≤c∧((N * L:Int):Rat) * frR p=(z:Int)
theorem tq {ks:List Str} {ps:List (Int×Int)} {n:Str} {r:Rw} {c κ g T:Nat} {L:Int} (P:Pt ks ps T) (hκ:ib (bot (pB ks ps) ks)≤κ) (L0:L≠0) (hL:∀ k∈ks,pB ks ps k ∣ L) (hg:ib L≤g) (nd:(r.2.1.map (·.1)).Nodup) (hk:ks.length≤60)
  (hp:∀ t∈r.2.1,t.1≠n→t.1∈ks) (hc:cf r.2.1 n≠0) (hcb:ib (cf r.2.1 n)≤c) (htb:∀ t∈r.2.1,ib t.2≤c) (hbb:ib r.2.2≤c):lj L c g κ T (bnd ks ps n r):=by
 unfold bnd
 have ho:∀ t∈r.2.1.filter (fun t=>decide (t.1≠n)),t.1∈ks∧ib t.2≤c:=fun t ht=>by
  obtain ⟨h1,h2⟩:=List.mem_filter.mp ht
  exact⟨hp t h1 (by simpa using h2),htb t h1⟩
 have ndo:((r.2.1.filter (fun t=>decide (t.1≠n))).map (·.1)).Nodup:=nd.sublist (List.filter_sublist.map _)
 generalize ho':r.2.1.filter (fun t=>decide (t.1≠n))=o at *
 have hon:∀ k∈o.map (·.1),k∈ks:=fun k hk=>by
  obtain ⟨t,ht,rfl⟩:=List.mem_map.mp hk
  exact (ho t ht).1
 have hlen:o.length≤60:=by
  have:=dD ndo hon
  rw [List.length_map] at this
  omega
 have hK:0 < bot (pB ks ps) (o.map (·.1)):=cD fun k hk=>P.pos (hon k hk)
 have hKa:0 < bot (pB ks ps) ks:=cD fun k hk=>P.pos hk
 have hd:=lY (q:=pB ks ps) ndo hon
 have hKb:ib (bot (pB ks ps) (o.map (·.1)))≤κ:=d8 hd (by omega) hκ
 have hsb:ib (sumT (ov (pT ks ps) (pB ks ps) (bot (pB ks ps) (o.map (·.1)))) o)≤c + (T + κ) + o.length:=fT fun t ht=>⟨(ho t ht).2,intBits_mul_le (P.Tb (ho t ht).1) (intBits_fdiv_le hKb)⟩
 have r1:=jT (ks:=ks) (ps:=ps) (K:=bot (pB ks ps) (o.map (·.1))) (ts:=o) fun t ht=>⟨P.pos (ho t ht).1,dJ (List.mem_map.mpr ⟨t,ht,rfl⟩)⟩
 have r2:=jT (ks:=ks) (ps:=ps) (K:=L) (ts:=o) fun t ht=>⟨P.pos (ho t ht).1,hL _ (ho t ht).1⟩
 simp only
 generalize bot (pB ks ps) (o.map (·.1))=K at *
 have hcK:cf r.2.1 n * K≠0:=Int.mul_ne_zero hc (by omega)
 have lw:=el (r.2.2 * K - sumT (ov (pT ks ps) (pB ks ps) K) o) hcK
 have wh:((cf r.2.1 n * L:Int):Rat) * frR (mkT (r.2.2 * K - sumT (ov (pT ks ps) (pB ks ps) K) o) (cf r.2.1 n * K),mkB (r.2.2 * K - sumT (ov (pT ks ps) (pB ks ps) K) o) (cf r.2.1 n * K))=((r.2.2 * L - sumT (ov (pT ks ps) (pB ks ps) L) o:Int):Rat):=by
  rw [ia _ hcK]
  have h1:=fe hc
  have h2:=fe (show K≠0 by omega)
  simp only [Rat.intCast_mul,Rat.intCast_sub,r1,r2]
  generalize sumR (ptR ks ps) o=x at *
  generalize ((cf r.2.1 n:Int):Rat)=a at *
  generalize ((K:Int):Rat)=b at *
  generalize ((L:Int):Rat)=d at *
  generalize ((r.2.2:Int):Rat)=e at *
  grind
 refine⟨lw,d8 (mz lw wh) (Int.mul_ne_zero hc L0) (intBits_mul_le hcb hg),?_,?_⟩
 ·have:=intBits_sub_le (intBits_mul_le hbb hKb) hsb
  exact Nat.le_trans (intBits_fdiv_le this) (by omega)
 ·exact⟨cf r.2.1 n,_,hc,hcb,wh⟩
theorem vd {lo:Bool} {Pr:Int×Int→Prop} {a b:En2} (ha:∀ p,a.1=some p→Pr p) (hb:∀ p,b.1=some p→Pr p):∀ p,(tgt lo a b).1=some p→Pr p:=by
 obtain ⟨a1,a2⟩:=a
 obtain ⟨b1,b2⟩:=b
 intro p h
 cases a1 with
 | none=>exact hb p h
 | some x =>
  cases b1 with
  | none=>exact ha p h
  | some y =>
   have h:(if x=y then ((some x,a2 && b2):En2) else if decide (y.1 * x.2 < x.1 * y.2)=lo then (some x,a2) else (some y,b2)).1=some p:=h
   split at h
   ·exact ha p h
   ·split at h
    ·exact ha p h
    ·exact hb p h
theorem u8 {nm:List Str} {rows:List Rw} {ks:List Str} {ps:List (Int×Int)} {n:Str} {Pr:Int×Int→Prop}:∀ {W:List (List Int)},(∀ w∈W,cfs (rows.zip w) n≠0→Pr (cnd nm rows ks ps n w).1)→(∀ p,(pcs nm rows ks ps n W).1.1=some p→Pr p)∧∀ p,(pcs nm rows ks ps n W).2.1=some p→Pr p:=by
  intro W
  unfold pcs
  have:∀ (W:List (List Int)) (e:En2×En2),(∀ w∈W,cfs (rows.zip w) n≠0→Pr (cnd nm rows ks ps n w).1)→(∀ p,e.1.1=some p→Pr p)→(∀ p,e.2.1=some p→Pr p)→(∀ p,(W.foldl (fun e w =>
    (if 0 < cfs (rows.zip w) n then tgt true e.1 (some (cnd nm rows ks ps n w).1,(cnd nm rows ks ps n w).2) else e.1,
     if cfs (rows.zip w) n < 0 then tgt false e.2 (some (cnd nm rows ks ps n w).1,(cnd nm rows ks ps n w).2) else e.2)) e).1.1=some p→Pr p)∧∀ p,(W.foldl (fun e w =>
    (if 0 < cfs (rows.zip w) n then tgt true e.1 (some (cnd nm rows ks ps n w).1,(cnd nm rows ks ps n w).2) else e.1,
     if cfs (rows.zip w) n < 0 then tgt false e.2 (some (cnd nm rows ks ps n w).1,(cnd nm rows ks ps n w).2) else e.2)) e).2.1=some p→Pr p:=fun W=>by
    induction W with
    | nil=>intro e _ h1 h2;exact⟨h1,h2⟩
    | cons w W ih =>
      intro e h h1 h2
      rw [List.foldl_cons]
      refine ih _ (fun w hw=>h w (List.mem_cons_of_mem _ hw)) ?_ ?_
      · show ∀ p,(if 0 < cfs (rows.zip w) n then tgt true e.1 (some (cnd nm rows ks ps n w).1,(cnd nm rows ks ps n w).2) else e.1).1=some p→Pr p
        by_cases q:0 < cfs (rows.zip w) n
        · rw [if_pos q];exact vd h1 fun p hp=>by cases hp;exact h w (List.mem_cons_self ..) (by omega)
        · rw [if_neg q];exact h1
      · show ∀ p,(if cfs (rows.zip w) n < 0 then tgt false e.2 (some (cnd nm rows ks ps n w).1,(cnd nm rows ks ps n w).2) else e.2).1=some p→Pr p
        by_cases q:cfs (rows.zip w) n < 0
        · rw [if_pos q];exact vd h2 fun p hp=>by cases hp;exact h w (List.mem_cons_self ..) (by omega)
        · rw [if_neg q];exact h2
  exact fun h=>this W _ h (fun p hp=>nomatch hp) fun p hp=>nomatch hp
theorem tP {L:Int} {c g κ T:Nat} {lo hi:Option (Int×Int)} (h0:L≠0) (hg:ib L≤g) (hgκ:g≤κ) (h1:∀ p,lo=some p→lj L c g κ T p) (h2:∀ p,hi=some p→lj L c g κ T p) :
  ib (nmb lo hi).1≤2 * (c + T + κ + 72) + 2∧ib (nmb lo hi).2≤2 * c + g + 2∧∃ M:Int,M≠0∧ib M≤2 * c + 2∧(nmb lo hi).2 ∣ M * L:=by
 have key:ib (nmb lo hi).1≤2 * (c + T + κ + 72) + 2∧∃ M:Int,M≠0∧ib M≤2 * c + 2∧(nmb lo hi).2 ∣ M * L:=?_
 ·obtain ⟨k1,M,m0,mb,md⟩:=key
  refine⟨k1,d8 md (Int.mul_ne_zero m0 h0) ?_,M,m0,mb,md⟩
  have:=intBits_mul_le mb hg
  unfold ib;omega
 have i1:ib 1=1:=by decide
 have o1:∀ a,∃ M:Int,M≠0∧ib M≤2 * c + 2∧mkB a 1 ∣ M * L:=fun a=>⟨1,by decide,by omega,by rw [(mY a).2];exact Int.one_dvd _⟩
 have o2:∀ {p:Int×Int} {z:Int},ib p.1≤c + T + κ + 70→ib z≤1→ib (mkT (p.1.fdiv p.2 + z) 1)≤2 * (c + T + κ + 72) + 2:=fun {p z} h hz=>by
  rw [(mY _).1]
  have:=intBits_add_le (intBits_fdiv_le (y:=p.2) h) hz
  unfold ib
  omega
 unfold nmb
 cases lo with
 | none =>
  cases hi with
  | none=>exact⟨by show ib 0≤_;rw [ib0];omega,1,by decide,by omega,Int.one_dvd _⟩
  | some h=>exact⟨o2 (p:=h) (z:=-1) (h2 h rfl).tb (by decide),o1 _⟩
 | some l =>
  cases hi with
  | none=>exact⟨o2 (p:=l) (z:=1) (h1 l rfl).tb (by decide),o1 _⟩
  | some h =>
   have cl:=h1 l rfl
   have ch:=h2 h rfl
   simp only
   by_cases k:mkT (l.1.fdiv l.2 + 1) 1 * h.2 < h.1 * mkB (l.1.fdiv l.2 + 1) 1
   ·rw [if_pos k];exact⟨o2 (p:=l) (z:=1) cl.tb (by decide),o1 _⟩
   ·rw [if_neg k]
    obtain ⟨N1,z1,n1,b1,w1⟩:=cl.wh
    obtain ⟨N2,z2,n2,b2,w2⟩:=ch.wh
    by_cases e:l=h
    ·rw [if_pos e];have b:=cl.tb;exact⟨by omega,N1,n1,by omega,mz (p:=l.1) cl.low w1⟩
    ·rw [if_neg e]
     have nz:l.2 * h.2≠0:=Int.mul_ne_zero cl.low.ne ch.low.ne
     have sl:=el (l.1 * h.2 + h.1 * l.2) nz
     have nz2:mkB (l.1 * h.2 + h.1 * l.2) (l.2 * h.2) * 2≠0:=Int.mul_ne_zero sl.ne (by decide)
     have e1:frR (mkT (l.1 * h.2 + h.1 * l.2) (l.2 * h.2),mkB (l.1 * h.2 + h.1 * l.2) (l.2 * h.2))=frR l + frR h:=by
      rw [ia _ nz,Rat.intCast_add,Rat.intCast_mul,Rat.intCast_mul,Rat.intCast_mul]
      have a1:=fe cl.low.ne
      have a2:=fe ch.low.ne
      unfold frR
      grind
     have e2:frR (mkT (mkT (l.1 * h.2 + h.1 * l.2) (l.2 * h.2) * 1) (mkB (l.1 * h.2 + h.1 * l.2) (l.2 * h.2) * 2),mkB (mkT (l.1 * h.2 + h.1 * l.2) (l.2 * h.2) * 1) (mkB (l.1 * h.2 + h.1 * l.2) (l.2 * h.2) * 2))=(frR l + frR h) / 2:=by
      rw [ia _ nz2,← e1,Rat.intCast_mul,Rat.intCast_mul,show ((1:Int):Rat)=1 from rfl,show ((2:Int):Rat)=2 from rfl]
      have a1:=fe sl.ne
      unfold frR
      grind
     have dv:mkB (mkT (l.1 * h.2 + h.1 * l.2) (l.2 * h.2) * 1) (mkB (l.1 * h.2 + h.1 * l.2) (l.2 * h.2) * 2) ∣ 2 * (N1 * N2) * L:=by
      refine mz (z:=N2 * z1 + N1 * z2) (el _ nz2) ?_
      rw [e2]
      simp only [Rat.intCast_mul,Rat.intCast_add] at w1 w2 ⊢
      rw [show ((2:Int):Rat)=2 from rfl]
      grind
     refine⟨?_,2 * (N1 * N2),Int.mul_ne_zero (by decide) (Int.mul_ne_zero n1 n2),?_,dv⟩
     ·have s1:=intBits_add_le (intBits_mul_le cl.tb ch.bb) (intBits_mul_le ch.tb cl.bb)
      have s2:ib (mkT (l.1 * h.2 + h.1 * l.2) (l.2 * h.2) * 1)≤2 * (c + T + κ + 72) + 2:=by
       rw [Int.mul_one]
       exact Nat.le_trans (intBits_fdiv_le s1) (by omega)
      exact intBits_fdiv_le s2
     ·have:=intBits_mul_le (show ib 2≤2 by decide) (intBits_mul_le b1 b2)
      unfold ib;omega
end Mf
namespace Lw
open PySem L2 DL
variable {P:Program} {w:World} {K:PySem.W.Frag} {mg:Str→Option Value} {base:Heap}
open Mf
theorem ap {t u:TDS} {R:fJ} {δ:En} (h:∀ K:En→Prop,K=u R→t { R with nx:=K } δ):dSeq t u R δ:=h _ rfl
theorem sq_t {xs:List D}:sq true xs=.lst xs:=rfl
theorem sq_f {xs:List D}:sq false xs=.tup xs:=rfl
def jH (src:TDC) (F:D→fJ→En→Prop):TDS:=fun R δ=>src δ fun xs δ1=>∃ I:Nat→En→Prop,I 0 δ1 ∧
 (∀ i x δ',xs[i]?=some x→I i δ'→F x { R with nx:=I (i + 1),ct:=I (i + 1),bk:=R.nx,tp:=False } δ')∧∀ δ',I xs.length δ'→R.nx δ'
theorem dX {src:TDC} {g:TDG} {tb:TDS} {R:fJ} {δ:En} (h:∀ (F:D→fJ→En→Prop) (N:En→Prop),F=(fun x R δ=>g x δ fun δ2=>tb R δ2)→N=R.nx→jH src F { R with nx:=N } δ):dFor src g tb R δ:=h _ _ rfl rfl
def f6 (t:TDE) (F:D→fJ→En→Prop):TDS:=fun R δ=>t δ (wd fun d δ1=>∃ xs,d=.lst xs∧∃ I:Nat→En→Prop,I 0 δ1 ∧
 (∀ i x δ',xs[i]?=some x→I i δ'→F x { R with nx:=I (i + 1),ct:=I (i + 1),bk:=R.nx,tp:=False } δ')∧∀ δ',I xs.length δ'→R.nx δ')
theorem dg {t:TDE} {g:TDG} {tb:TDS} {R:fJ} {δ:En} (h:∀ (F:D→fJ→En→Prop) (N:En→Prop),F=(fun x R δ=>g x δ fun δ2=>tb R δ2)→N=R.nx→f6 t F { R with nx:=N } δ):pJ t g tb R δ:=h _ _ rfl rfl
def sG (t:TDA) (F:D→fJ→En→Prop):TDS:=fun R δ=>t δ fun ds δ1=>∃ j:Int,ds=[.int j]∧-(2 ^ 62)≤j∧j < 2 ^ 62∧∃ I:Nat→En→Prop,I 0 δ1 ∧
 (∀ i δ',i < j.toNat→I i δ'→F (.int i) { R with nx:=I (i + 1),ct:=I (i + 1),bk:=R.nx,tp:=False } δ')∧∀ δ',I j.toNat δ'→R.nx δ'
theorem nF {t:TDA} {g:TDG} {tb:TDS} {R:fJ} {δ:En} (h:∀ (F:D→fJ→En→Prop) (N:En→Prop),F=(fun x R δ=>g x δ fun δ2=>tb R δ2)→N=R.nx→sG t F { R with nx:=N } δ):vE t g tb R δ:=h _ _ rfl rfl
theorem cK {g:TDG} {x:D} {t u:TDS} {R:fJ} {δ:En} (h:∀ K:En→Prop,K=u R→g x δ fun δ2=>t { R with nx:=K } δ2):g x δ fun δ2=>dSeq t u R δ2:=h _ rfl
theorem bO {α β γ:Type} (f:β→Option γ) (g:α→β) (h:α→γ):∀ (l:List α),(∀ x∈l,f (g x)=some (h x))→(l.map g).filterMap f=l.map h
 | [],_=>rfl
 | x :: l,e=>by rw [List.map_cons,List.map_cons,List.filterMap_cons,e x (List.mem_cons_self ..),bO f g h l fun y hy=>e y (List.mem_cons_of_mem _ hy)]
theorem ifn {c A B:Prop} [Decidable c] (hc:¬ c) (h:B):if c then A else B:=by rw [if_neg hc];exact h
theorem ifp {c A B:Prop} [Decidable c] (hc:c) (h:A):if c then A else B:=by rw [if_pos hc];exact h
theorem at0 {α:Type} {x:α} {xs:List α}:atI (x :: xs) 0=some x:=by
 unfold atI ixN
 simp only [List.length_cons]
 rw [if_pos (by omega),if_pos (by omega)]
 rfl
theorem at1 {α:Type} {x y:α} {xs:List α}:atI (x :: y :: xs) 1=some y:=by
 unfold atI ixN
 simp only [List.length_cons]
 rw [if_pos (by omega),if_pos (by omega)]
 rfl
theorem at2 {α:Type} {x y z:α} {xs:List α}:atI (x :: y :: z :: xs) 2=some z:=by
 unfold atI ixN
 simp only [List.length_cons]
 rw [if_pos (by omega),if_pos (by omega)]
 rfl
theorem atm1 {α:Type} {x:α} {xs:List α}:atI (xs++[x]) (-1)=some x:=tD xs x
theorem qp {i j:Int} {R:D→Prop}:rB [.int i,.int j] R↔R (.int (i + j)):=Iff.rfl
theorem pF {xs ys:List D} {R:D→Prop}:rB [.lst xs,.lst ys] R↔xs.length + ys.length≤9000∧R (.lst (xs++ys)):=Iff.rfl
theorem tS {xs:List D} {R:D→Prop}:fLen [.lst xs] R↔R (.int xs.length):=Iff.rfl
theorem v8 {xs:List D} {R:D→Prop}:fLen [.fz xs] R↔R (.int xs.length):=Iff.rfl
theorem sO {xs:List D} {R:D→Prop}:fLen [.tup xs] R↔R (.int xs.length):=Iff.rfl
theorem sX {i:Int} {R:D→Prop}:fInt [.int i] R↔R (.int i):=Iff.rfl
theorem v6 {b:Bool} {R:D→Prop}:fInt [.bl b] R↔R (.int (if b then 1 else 0)):=Iff.rfl
theorem xO {xs:List D} {i:Int} {R:D→Prop}:fIx [.tup xs,.int i] R↔∃ v,atI xs i=some v∧R v:=Iff.rfl
theorem xH {xs:List D} {i:Int} {R:D→Prop}:fIx [.lst xs,.int i] R↔∃ v,atI xs i=some v∧R v:=Iff.rfl
theorem yA {xs:List D} {i:Int} {R:D→Prop}:fIx [.fz xs,.int i] R↔∃ v,atI xs i=some v∧R v:=Iff.rfl
theorem vZ {z:Str} {i:Int} {R:D→Prop}:fIx [.str z,.int i] R↔z.length≤9000∧∃ c,atI z.cps.toList i=some c∧R (.str ⟨#[c]⟩):=Iff.rfl
theorem vQ {xs:List D} {l u:Option Int} {R:D→Prop}:fSl (.lst xs) l u R↔R (.lst (cut xs l u)):=Iff.rfl
theorem zP {xs:List D} {l u:Option Int} {R:D→Prop}:fSl (.fz xs) l u R↔R (.lst (cut xs l u)):=Iff.rfl
theorem Nat.cast_ofNat_Int {n:Nat}:((OfNat.ofNat n:Nat):Int)=OfNat.ofNat n:=rfl
theorem pz:isT "int" (tyN .non)=false:=rfl
theorem sE {b:Bool}:isT "int" (tyN (.bl b))=true:=rfl
theorem oK {i:Int}:isT "int" (tyN (.int i))=true:=rfl
theorem oJ {x:Str}:isT "int" (tyN (.str x))=false:=rfl
theorem ou {xs:List D}:isT "int" (tyN (.tup xs))=false:=rfl
theorem oU {xs:List D}:isT "int" (tyN (.lst xs))=false:=rfl
theorem pV {xs:List D}:isT "int" (tyN (.fz xs))=false:=rfl
theorem ox {ks:List Str} {vs:List D}:isT "int" (tyN (.dct ks vs))=false:=rfl
theorem mD:isT "bool" (tyN .non)=false:=rfl
theorem oT {b:Bool}:isT "bool" (tyN (.bl b))=true:=rfl
theorem ly {i:Int}:isT "bool" (tyN (.int i))=false:=rfl
theorem lV {x:Str}:isT "bool" (tyN (.str x))=false:=rfl
theorem mq {xs:List D}:isT "bool" (tyN (.tup xs))=false:=rfl
theorem mx {xs:List D}:isT "bool" (tyN (.lst xs))=false:=rfl
theorem n9 {xs:List D}:isT "bool" (tyN (.fz xs))=false:=rfl
theorem lG {ks:List Str} {vs:List D}:isT "bool" (tyN (.dct ks vs))=false:=rfl
theorem kL:isT "tuple" (tyN .non)=false:=rfl
theorem lu {b:Bool}:isT "tuple" (tyN (.bl b))=false:=rfl
theorem kl {i:Int}:isT "tuple" (tyN (.int i))=false:=rfl
theorem kj {x:Str}:isT "tuple" (tyN (.str x))=false:=rfl
theorem ko {xs:List D}:isT "tuple" (tyN (.tup xs))=true:=rfl
theorem ke {xs:List D}:isT "tuple" (tyN (.lst xs))=false:=rfl
theorem lR {xs:List D}:isT "tuple" (tyN (.fz xs))=false:=rfl
theorem ky {ks:List Str} {vs:List D}:isT "tuple" (tyN (.dct ks vs))=false:=rfl
theorem lH:isT "list" (tyN .non)=false:=rfl
theorem ph {b:Bool}:isT "list" (tyN (.bl b))=false:=rfl
theorem lc {i:Int}:isT "list" (tyN (.int i))=false:=rfl
theorem lK {x:Str}:isT "list" (tyN (.str x))=false:=rfl
theorem lL {xs:List D}:isT "list" (tyN (.tup xs))=false:=rfl
theorem mr {xs:List D}:isT "list" (tyN (.lst xs))=true:=rfl
theorem oE {xs:List D}:isT "list" (tyN (.fz xs))=true:=rfl
theorem ma {ks:List Str} {vs:List D}:isT "list" (tyN (.dct ks vs))=false:=rfl
theorem oB:isT "str" (tyN .non)=false:=rfl
theorem rV {b:Bool}:isT "str" (tyN (.bl b))=false:=rfl
theorem oG {i:Int}:isT "str" (tyN (.int i))=false:=rfl
theorem og {x:Str}:isT "str" (tyN (.str x))=true:=rfl
theorem oF {xs:List D}:isT "str" (tyN (.tup xs))=false:=rfl
theorem oM {xs:List D}:isT "str" (tyN (.lst xs))=false:=rfl
theorem qv {xs:List D}:isT "str" (tyN (.fz xs))=false:=rfl
theorem om {ks:List Str} {vs:List D}:isT "str" (tyN (.dct ks vs))=false:=rfl
theorem my:isT "dict" (tyN .non)=false:=rfl
theorem pc {b:Bool}:isT "dict" (tyN (.bl b))=false:=rfl
theorem lX {i:Int}:isT "dict" (tyN (.int i))=false:=rfl
theorem mj {x:Str}:isT "dict" (tyN (.str x))=false:=rfl
theorem lq {xs:List D}:isT "dict" (tyN (.tup xs))=false:=rfl
theorem lD {xs:List D}:isT "dict" (tyN (.lst xs))=false:=rfl
theorem oZ {xs:List D}:isT "dict" (tyN (.fz xs))=false:=rfl
theorem kY {ks:List Str} {vs:List D}:isT "dict" (tyN (.dct ks vs))=true:=rfl
theorem p9 {xs ys:List D} {R:D→Prop}:rB [.tup xs,.tup ys] R↔xs≠[]∧ys≠[]∧xs.length + ys.length≤9000∧R (.tup (xs++ys)):=Iff.rfl
theorem wR {xs:List D} {l u:Option Int} {R:D→Prop}:fSl (.tup xs) l u R↔¬ (HT.sIx xs.length 0 l=0∧HT.sIx xs.length xs.length u=xs.length)∧R (.tup (cut xs l u)):=Iff.rfl
theorem xK {R:D→Prop}:fIs [.non,.non] R↔R (.bl true):=Iff.rfl
theorem vD {xs:List D} {R:D→Prop}:fIs [.tup xs,.non] R↔R (.bl false):=Iff.rfl
theorem rD {ks:List Str} {vs:List D}:isT "int" (tyN (.fd ks vs))=false:=rfl
theorem oC {ks:List Str} {vs:List D}:isT "bool" (tyN (.fd ks vs))=false:=rfl
theorem mh {ks:List Str} {vs:List D}:isT "tuple" (tyN (.fd ks vs))=false:=rfl
theorem oy {ks:List Str} {vs:List D}:isT "list" (tyN (.fd ks vs))=false:=rfl
theorem sj {ks:List Str} {vs:List D}:isT "str" (tyN (.fd ks vs))=false:=rfl
theorem pv {ks:List Str} {vs:List D}:isT "dict" (tyN (.fd ks vs))=true:=rfl
local macro_rules | `(tactic| walk_at "rd") => `(tactic| try simp only [vg, yk, yJ, dcSq, ve, dSlO, uS, uN, zk, nS, yB, uW, yu, vh, y7, sR, pf, wV, tO, tH, wS, vC, p9, wR, xK, vD, rD, oC, mh, oy, sj, pv, ne_eq, List.cons_ne_nil, dAug, dSS, yT, Ai, sq_t, sq_f, tZ, t7, AM, xX, yP, yE, yG, yO, As, qG, qf, Sl.own.injEq, exists_const, exists_eq, D.lst.injEq, D.dct.injEq, D.str.injEq, dSeq, dIf, dRet, dSet, dV, dO, dC, dOp, dUn, wd, dTst, dAnd, dOr, dNot, zr, dOrV, yY, dIfE, vc, yI, pC, dTup, dLst, dPar, yM, rf, Aw, dAsg, iT, yf, uI, jP, AH, AV, uj, ub, dSl, p8, zq, dIsi, xW, A7, Az, wT, wc, zX, xh, sW, Aj, wO, qp, pF, tS, v8, sO, sX, v6, xO, xH, yA, vZ, vQ, zP, uD, vH, um, t3, uE, yd, dPop, tj, wF, vN, lZ, lT, zG, qr, pd, oR, qT, qj, Bx, vS, Ab, yF, yD, allT, okT, capL, capO, oS, eo, pz, sE, oK, oJ, ou, oU, pV, ox, mD, oT, ly, lV, mq, mx, n9, lG, kL, lu, kl, kj, ko, ke, lR, ky, lH, ph, lc, lK, lL, mr, oE, ma, oB, rV, oG, og, oF, oM, qv, om, my, pc, lX, mj, lq, lD, oZ, kY,
 List.map_cons,List.map_nil,List.length_cons,List.length_nil,List.replicate,List.cons_append,List.nil_append,List.append_nil,List.getElem?_cons_zero,List.getElem?_cons_succ,List.set_cons_zero,List.set_cons_succ,Option.some.injEq,Sl.dat.injEq,D.int.injEq,D.bl.injEq,D.tup.injEq,List.cons.injEq,and_assoc,and_true,true_and,exists_eq_left',exists_eq_left,exists_eq_right',exists_and_left,Nat.zero_add,Nat.reduceAdd,Nat.reduceSub,Nat.add_zero,Nat.reduceLeDiff,Nat.sub_self,at0,at1,at2,atm1,if_true,if_false,ite_true,ite_false,Int.reduceEq,Int.reduceLT,Nat.cast_ofNat_Int,not_true_eq_false,not_false_eq_true,Bool.false_eq_true,reduceCtorEq,Bool.not_false,Bool.not_true,List.forall_mem_cons,List.mem_cons,List.not_mem_nil,forall_const,false_implies,implies_true,Nat.reduceLT,if_pos,List.filterMap_cons,List.filterMap_nil,decide_eq_true_eq,Bool.not_eq_true',decide_eq_false_iff_not])
theorem mo2 {x y:Int} {m n:Nat} (h1:Builtin.Int.intBits x≤m) (h2:Builtin.Int.intBits y≤n) (h:m + n≤134217728:=by decide):IntMulOk x y:=IntMulOk.of_le h1 h2 h
theorem sm64 {x:Int} (h0:0≤x) (h1:x < 18446744073709551616):Builtin.Int.intBits x≤64:=intBits_le_64 (by omega) (by omega)
theorem o7 {b:Int} {n:Nat} (h:Builtin.Int.intBits b≤n) (hn:n≤8000):b.natAbs.log2 < 9000:=by
 have h1:=intBits_le_iff.mp h
 rcases Nat.eq_zero_or_pos b.natAbs with h0 | hp
 ·rw [h0];decide
 ·have h2:b.natAbs.log2 < n:=(Nat.log2_lt (Nat.ne_of_gt hp)).mpr h1
  omega
inductive bD (ds:List D) (R:D→Prop):Prop
 | mk (a b:_) (hh:ds=[.int a,.int b]∧R (.int (gc a b)))
theorem ef:∀ ds R,bD ds R→ds.length=2:=fun _ _ ⟨_,_,e,_⟩=>by rw [e];rfl
theorem bv:ax ["one","other","rest"] ["one","other"] (ak s_common_divisor):=⟨rfl,rfl,rfl,by decide +kernel,rfl,by decide +kernel,by decide +kernel⟩
theorem fE (F:Fd K mg "common_divisor" s_common_divisor ["one","other"]) (oX:mg "abs"=none):Cal P w K mg base 1 "common_divisor" ["one","other"] (spD K bD):=by
 refine fn_D F bv ef fun fa cdv A outer s H E ds R hr h=>?_
 have hU:=hr.units
 refine⟨_,(ad (mQ PassesOwn.never (aI (fQ hU) (de_v 1) ae (ar _)) (ad (aB 2 bv.nd (aC eD (de_v 0) (de_v 1))) (ad (aB 0 bv.nd (de_v 1)) (af (aB 1 bv.nd (de_v 2)))))) (af (ay (aM yW rfl oX zz (ac (de_v 0) ag))))),?_⟩
 obtain ⟨x,y,rfl,q⟩:=h
 refine⟨fun δ=>∃ a b t,δ=[.dat (.int a),.dat (.int b),t]∧gc a b=gc x y,fun δ=>match δ with | [_,.dat (.int b),_]=>b.natAbs | _=>0,⟨x,y,.no,rfl,rfl⟩,?_⟩
 rintro δ ⟨a,b,t,rfl,e⟩
 walk_at "rd"
 refine ite2 (fun c=>⟨c,(pO a b).trans e,em a b c⟩) (fun c=>?_)
 have c:=Decidable.not_not.mp c
 subst c
 rw [← rL,e]
 exact q
theorem vY {t b:Int} {n:Nat} (hb:b≠0) (h:Builtin.Int.intBits b≤n):Builtin.Int.intBits (dv t b)≤n:=by
 refine intBits_le_of_natAbs ?_ h
 rw [kh]
 exact Int.gcd_le_natAbs_right t hb
inductive iO (ds:List D) (R:D→Prop):Prop
 | mk (t b:_) (hh:ds=[.int t,.int b]∧b≠0∧Builtin.Int.intBits b≤8000∧R (.tup [.int (mkT t b),.int (mkB t b)]))
theorem oO:∀ ds R,iO ds R→ds.length=2:=fun _ _ ⟨_,_,e,_⟩=>by rw [e];rfl
theorem mC:ax ["top","bottom","divisor"] ["top","bottom"] (ak s_made):=⟨rfl,rfl,rfl,by decide +kernel,rfl,by decide +kernel,by decide +kernel⟩
theorem sL (F:Fd K mg "made" s_made ["top","bottom"]) (aV:Cal P w K mg base 1 "common_divisor" ["one","other"] (spD K (bD))):Cal P w K mg base 2 "made" ["top","bottom"] (spD K iO):=by
 refine fn_D F mC oO fun fa cdv A outer s H E ds R hr h=>?_
 have hU:=hr.units
 refine⟨_,(ad (a7 (aI (o_eq hU) (de_v 1) ae (ar _)) km aH) (ad (aB 2 mC.nd (av aV (rm hr) rfl (ac (de_v 0) (ac (de_v 1) ag)))) (ad (a7 (aI o_lt (de_v 1) ae (ar _)) (af (aB 2 mC.nd (xx xf (de_v 2)))) aH) (af (ay (bN (ac (aC dU (de_v 0) (de_v 2)) (ac (aC dU (de_v 1) (de_v 2)) ag)))))))),?_⟩
 obtain ⟨x,y,rfl,hy,hb,q⟩:=h
 walk_at "rd"
 rw [if_neg hy]
 refine⟨x,y,rfl,?_⟩
 walk_at "rd"
 have hd:=y6 x hy
 have hl:=o7 (vY (t:=x) hy hb) (Nat.le_refl _)
 unfold mkT mkB at q
 unfold dv at hd hl q
 refine ite2 (fun c=>?_) (fun c=>?_)
 ·simp only [if_pos c] at hd hl q
  exact⟨⟨hd,hl⟩,⟨hd,hl⟩,q⟩
 ·simp only [if_neg c] at hd hl q
  exact⟨⟨hd,hl⟩,⟨hd,hl⟩,q⟩
inductive qU (ds:List D) (R:D→Prop):Prop
 | mk (p q:Int×Int) (hh:ds=[frD p,frD q]∧p.2 * q.2≠0∧ib p.1≤1000000∧ib q.1≤1000000∧ib p.2≤4000∧ib q.2≤4000∧R (frD (mkT (p.1 * q.2 + q.1 * p.2) (p.2 * q.2),mkB (p.1 * q.2 + q.1 * p.2) (p.2 * q.2))))
theorem o0:∀ ds R,qU ds R→ds.length=2:=fun _ _ ⟨_,_,e,_⟩=>by rw [e];rfl
theorem vI:ax ["one","other"] ["one","other"] (ak s_plus):=⟨rfl,rfl,rfl,by decide +kernel,rfl,by decide +kernel,by decide +kernel⟩
theorem uy (F:Fd K mg "plus" s_plus ["one","other"]) (cY:Cal P w K mg base 2 "made" ["top","bottom"] (spD K (iO))):Cal P w K mg base 3 "plus" ["one","other"] (spD K qU):=by
 refine fn_D F vI o0 fun fa cdv A outer s H E ds R hr h=>?_
 have hU:=hr.units
 refine⟨_,(af (ay (av cY (rm hr) rfl (ac (aC bC (aC bB (aw au (de_v 0) ae (fun _ _=>rfl)) (aw au (de_v 1) ae (fun _ _=>rfl))) (aC bB (aw au (de_v 1) ae (fun _ _=>rfl)) (aw au (de_v 0) ae (fun _ _=>rfl)))) (ac (aC bB (aw au (de_v 0) ae (fun _ _=>rfl)) (aw au (de_v 1) ae (fun _ _=>rfl))) ag))))),?_⟩
 obtain ⟨p,q,rfl,nz,b1,b2,b3,b4,k⟩:=h
 unfold frD at k ⊢
 walk_at "rd"
 exact⟨mo2 b1 b4,mo2 b2 b3,mo2 b3 b4,_,_,rfl,nz,Nat.le_trans (intBits_mul_le b3 b4) (by decide),k⟩
inductive ls (ds:List D) (R:D→Prop):Prop
 | mk (p q:Int×Int) (hh:ds=[frD p,frD q]∧p.2 * q.2≠0∧ib p.1≤2000000∧ib q.1≤1000000∧ib p.2≤7990∧ib q.2≤10∧R (frD (mkT (p.1 * q.1) (p.2 * q.2),mkB (p.1 * q.1) (p.2 * q.2))))
theorem mw:∀ ds R,ls ds R→ds.length=2:=fun _ _ ⟨_,_,e,_⟩=>by rw [e];rfl
theorem tG:ax ["one","other"] ["one","other"] (ak s_times):=⟨rfl,rfl,rfl,by decide +kernel,rfl,by decide +kernel,by decide +kernel⟩
theorem pX (F:Fd K mg "times" s_times ["one","other"]) (cY:Cal P w K mg base 2 "made" ["top","bottom"] (spD K (iO))):Cal P w K mg base 3 "times" ["one","other"] (spD K ls):=by
 refine fn_D F tG mw fun fa cdv A outer s H E ds R hr h=>?_
 have hU:=hr.units
 refine⟨_,(af (ay (av cY (rm hr) rfl (ac (aC bB (aw au (de_v 0) ae (fun _ _=>rfl)) (aw au (de_v 1) ae (fun _ _=>rfl))) (ac (aC bB (aw au (de_v 0) ae (fun _ _=>rfl)) (aw au (de_v 1) ae (fun _ _=>rfl))) ag))))),?_⟩
 obtain ⟨p,q,rfl,nz,b1,b2,b3,b4,k⟩:=h
 unfold frD at k ⊢
 walk_at "rd"
 exact⟨mo2 b1 b2,mo2 b3 b4,_,_,rfl,nz,Nat.le_trans (intBits_mul_le b3 b4) (by decide),k⟩
inductive nK (ds:List D) (R:D→Prop):Prop
 | mk (p q:Int×Int) (hh:ds=[frD p,frD q]∧ib p.1≤2000000∧ib q.1≤2000000∧ib p.2≤8000∧ib q.2≤8000∧R (.bl (decide (p.1 * q.2 < q.1 * p.2))))
theorem oN:∀ ds R,nK ds R→ds.length=2:=fun _ _ ⟨_,_,e,_⟩=>by rw [e];rfl
theorem xw:ax ["one","other"] ["one","other"] (ak s_less):=⟨rfl,rfl,rfl,by decide +kernel,rfl,by decide +kernel,by decide +kernel⟩
theorem t6 (F:Fd K mg "less" s_less ["one","other"]):Cal P w K mg base 1 "less" ["one","other"] (spD K nK):=by
 refine fn_D F xw oN fun fa cdv A outer s H E ds R hr h=>?_
 have hU:=hr.units
 refine⟨_,(af (ay (bT o_lt (aC bB (aw au (de_v 0) ae (fun _ _=>rfl)) (aw au (de_v 1) ae (fun _ _=>rfl))) (aC bB (aw au (de_v 1) ae (fun _ _=>rfl)) (aw au (de_v 0) ae (fun _ _=>rfl))) (ar _)))),?_⟩
 obtain ⟨p,q,rfl,b1,b2,b3,b4,k⟩:=h
 unfold frD
 walk_at "rd"
 exact⟨mo2 b1 b4,mo2 b2 b3,k⟩
inductive Say where
 | row (k:Kd) (ts:List (Str×Int)) (b:Int)
 | nt (s:Say)
 | bo (s t:Say)
 | ei (s t:Say)
def Say.D:Say→D
 | .row k ts b=>rowD k ts b
 | .nt s=>.tup [.str "not",s.D]
 | .bo s t=>.tup [.str "both",s.D,t.D]
 | .ei s t=>.tup [.str "either",s.D,t.D]
def Say.dep:Say→Nat
 | .row _ _ _=>1
 | .nt s=>s.dep + 1
 | .bo s t=>max s.dep t.dep + 1
 | .ei s t=>max s.dep t.dep + 1
def Say.nms:Say→List Str
 | .row _ ts _=>ts.map (·.1)
 | .nt s=>s.nms
 | .bo s t=>s.nms++t.nms
 | .ei s t=>s.nms++t.nms
def Say.ok (names:List Str):Say→Prop
 | .row _ ts b=>Bj names ts∧Builtin.Int.intBits b≤10000
 | .nt s=>s.ok names
 | .bo s t=>s.ok names∧t.ok names
 | .ei s t=>s.ok names∧t.ok names
theorem Say.dep_pos:∀ s:Say,0 < s.dep
 | .row _ _ _=>Nat.one_pos
 | .nt s=>Nat.succ_pos _
 | .bo s t=>Nat.succ_pos _
 | .ei s t=>Nat.succ_pos _
theorem Say.nms_sub {names:List Str}:∀ {s:Say},s.ok names→∀ n∈s.nms,n∈names
 | .row _ ts _,h,n,hn=>h.1.sub.subset hn
 | .nt s,h,n,hn=>Say.nms_sub (s:=s) h n hn
 | .bo s t,h,n,hn=>(List.mem_append.mp hn).elim (Say.nms_sub h.1 n) (Say.nms_sub h.2 n)
 | .ei s t,h,n,hn=>(List.mem_append.mp hn).elim (Say.nms_sub h.1 n) (Say.nms_sub h.2 n)
def Say.isRow:Say→Bool
 | .row _ _ _=>true
 | _=>false
inductive gx (ds:List D) (R:D→Prop):Prop
 | mk (s:Say) (hh:ds=[s.D]∧R (.bl s.isRow))
theorem kI:∀ ds R,gx ds R→ds.length=1:=fun _ _ ⟨_,e,_⟩=>by rw [e];rfl
theorem rA:ax ["saying"] ["saying"] (ak s_is_row):=⟨rfl,rfl,rfl,by decide +kernel,rfl,by decide +kernel,by decide +kernel⟩
theorem oY (F:Fd K mg "is_row" s_is_row ["saying"]):Cal P w K mg base 1 "is_row" ["saying"] (spD K gx):=by
 refine fn_D F rA kI fun fa cdv A outer s H E ds R hr h=>?_
 have hU:=hr.units
 refine⟨_,(af (ay (rT (bT (o_eq hU) (aw au (de_v 0) ae (fun _ _=>rfl)) bm (ar _)) (dw (bT (o_eq hU) (aw au (de_v 0) ae (fun _ _=>rfl)) bm (ar _)))))),?_⟩
 obtain ⟨s,rfl,q⟩:=h
 walk_at "rd"
 cases s with
 | row k ts b =>
  cases k
  ·unfold Say.D rowD kdS;walk_at "rd";exact q
  ·unfold Say.D rowD kdS;walk_at "rd";exact ifn (by decide) q
 | nt s=>unfold Say.D;walk_at "rd";exact ifn (by decide) q
 | bo s t=>unfold Say.D;walk_at "rd";exact ifn (by decide) q
 | ei s t=>unfold Say.D;walk_at "rd";exact ifn (by decide) q
def cj (ks:List Str) (l:List Str):List Str:=l.foldl kPut ks
def c6 (n:Nat):List D:=List.replicate n (.bl true)
theorem tT {ks:List Str} {x y:Str}:y∈kPut ks x↔y∈ks∨y=x:=by
 unfold kPut
 by_cases e:x∈ks
 ·rw [if_pos e]
  exact⟨.inl,fun h=>h.elim id fun z=>z ▸ e⟩
 ·rw [if_neg e,List.mem_append,List.mem_singleton]
theorem fm:∀ {l ks:List Str},ks.Nodup→(cj ks l).Nodup
 | [],_,h=>h
 | _ :: l,_,h=>fm (l:=l) (fR h)
theorem cV:∀ {l ks:List Str} {y:Str},y∈cj ks l↔y∈ks∨y∈l
 | [],ks,y=>by show y∈ks↔_;simp
 | x :: l,ks,y=>by
  show y∈cj (kPut ks x) l↔_
  rw [cV,tT,List.mem_cons,or_assoc]
theorem ff {ks l r:List Str}:cj ks (l++r)=cj (cj ks l) r:=List.foldl_append ..
theorem gO:∀ (ks:List Str) (n:Nat) (x:Str),vRep ks (c6 n) x (D.bl true)=c6 n
 | [],n,x=>by cases n<;>rfl
 | k :: ks,0,x=>rfl
 | k :: ks,n + 1,x=>by
  show (if k=x then D.bl true else D.bl true) :: vRep ks (c6 n) x (D.bl true)=D.bl true :: c6 n
  rw [gO ks n x];split<;>rfl
theorem qN {ks:List Str} {x:Str}:vPut ks (c6 ks.length) x (D.bl true)=c6 (kPut ks x).length:=by
 unfold vPut kPut
 by_cases e:x∈ks
 ·rw [if_pos e,if_pos e,gO]
 ·rw [if_neg e,if_neg e,List.length_append]
  show List.replicate _ _++List.replicate 1 _=List.replicate _ _
  rw [List.replicate_append_replicate];rfl
def Say.subs:Say→List Say
 | .row _ _ _=>[]
 | .nt s=>[s]
 | .bo s t=>[s,t]
 | .ei s t=>[s,t]
theorem Say.subs_dep {s u:Say} (h:u∈s.subs):u.dep < s.dep:=by
 cases s with
 | row k ts b=>cases h
 | nt s=>rw [List.mem_singleton.mp h];exact Nat.lt_succ_self _
 | bo s t =>
  have h:u∈[s,t]:=h
  simp only [List.mem_cons,List.not_mem_nil,or_false] at h
  show u.dep < max s.dep t.dep + 1
  rcases h with rfl | rfl<;>omega
 | ei s t =>
  have h:u∈[s,t]:=h
  simp only [List.mem_cons,List.not_mem_nil,or_false] at h
  show u.dep < max s.dep t.dep + 1
  rcases h with rfl | rfl<;>omega
theorem Say.subs_ok {names:List Str} {s u:Say} (h:u∈s.subs) (o:s.ok names):u.ok names:=by
 cases s with
 | row k ts b=>cases h
 | nt s=>rw [List.mem_singleton.mp h];exact o
 | bo s t =>
  have h:u∈[s,t]:=h
  simp only [List.mem_cons,List.not_mem_nil,or_false] at h
  rcases h with rfl | rfl
  ·exact o.1
  ·exact o.2
 | ei s t =>
  have h:u∈[s,t]:=h
  simp only [List.mem_cons,List.not_mem_nil,or_false] at h
  rcases h with rfl | rfl
  ·exact o.1
  ·exact o.2
def Say.word:Say→Str
 | .row k _ _=>kdS k
 | .nt _=>"not"
 | .bo _ _=>"both"
 | .ei _ _=>"either"
theorem Say.D_subs {s:Say} (h:s.isRow=false):s.D=.tup (.str s.word :: s.subs.map Say.D):=by
 cases s with
 | row=>cases h
 | nt=>rfl
 | bo=>rfl
 | ei=>rfl
theorem Say.nms_subs {s:Say} (h:s.isRow=false):s.nms=s.subs.flatMap Say.nms:=by
 cases s with
 | row=>cases h
 | nt s=>show s.nms=s.nms++[];rw [List.append_nil]
 | bo s t=>show s.nms++t.nms=s.nms++(t.nms++[]);rw [List.append_nil]
 | ei s t=>show s.nms++t.nms=s.nms++(t.nms++[]);rw [List.append_nil]
theorem tV {α:Type} {x:α} {xs:List α}:cut (x :: xs) (some 1) none=xs:=by
 unfold cut
 have e1:HT.sIx (x :: xs).length 0 (some 1)=1:=by
  have:=HT.sIx_nat (x :: xs).length 0 1
  rw [List.length_cons] at this ⊢
  rw [show (some (1:Int))=some ((1:Nat):Int) from rfl,this]
  omega
 rw [e1,HT.sIx_none,List.length_cons,List.drop_one,List.tail_cons,Nat.add_sub_cancel,List.take_length]
inductive a4 (n:Nat) (d:D) (ds:List D) (R:D→D→Prop):Prop
 | mk (names s ks:_) (hh:ds=[Say.D s]∧s.dep≤n∧s.ok names∧names.length≤100∧ks.Nodup∧(∀ k∈ks,k∈names)∧d=.dct ks (c6 ks.length)∧R .non (.dct (cj ks s.nms) (c6 (cj ks s.nms).length)))
theorem gk (n:Nat):∀ d ds R,a4 n d ds R→ds.length=1:=fun _ _ _ ⟨_,_,_,e,_⟩=>by rw [e];rfl
theorem fM:∀ d ds R,¬ a4 0 d ds R:=fun _ _ _ ⟨_,s,_,_,h,_⟩=>by have:=s.dep_pos;omega
theorem cm:ax ["saying","found","name","weight","part"] ["saying","found"] (ak s_mark_names):=⟨rfl,rfl,rfl,by decide +kernel,rfl,by decide +kernel,by decide +kernel⟩
theorem iI (F:Fd K mg "mark_names" s_mark_names ["saying","found"]) (ee:Cal P w K mg base 1 "is_row" ["saying"] (spD K (gx))) {n:Nat} (bh:Cal P w K mg base (2 + n) "mark_names" ["saying","found"] (spO1 K (a4 n))):Cal P w K mg base (2 + n + 1) "mark_names" ["saying","found"] (spO1 K (a4 (n + 1))):=by
 refine AE (k:=2 + n) F cm rfl (gk (n + 1)) fun fa cdv A outer s H E oa d0 d R hr h=>?_
 have hU:=hr.units
 refine⟨_,(ad (a7 (cP (av ee (hr.mono (by omega)) rfl (ac (de_v 0) ag))) (ad (dZ PassesOwn.never rfl (aw au (de_v 0) ae (fun _ _=>rfl)) (b7 (n:=2) rfl (aF (am 2 cm.nd) (aF (am 3 cm.nd) bn))) (af (dL 1 hU eg (de_v 2)))) (af vP)) aH) (af (dZ PassesOwn.never rfl (rP (de_v 0) (gM ae) mF) (am 4 cm.nd) (af (pH (j9 1 bh (hr.mono (by omega)) rfl (de_v 4))))))),?_⟩
 obtain ⟨names,s,ks,e,hd,ok,hl,nd,sub,rfl,q⟩:=h
 cases e
 walk_at "rd"
 refine⟨s,rfl,?_⟩
 walk_at "rd"
 cases hrow:s.isRow with
 | true =>
  cases s with
  | row k ts b =>
   refine ifp rfl ?_
   simp only [ja]
   unfold Say.D rowD
   walk_at "rd"
   have tsub:∀ t∈ts,t.1∈names:=fun t h=>ok.1.sub.subset (List.mem_map.mpr ⟨t,h,rfl⟩)
   have sub2:∀ i,∀ x∈cj ks ((ts.take i).map (·.1)),x∈names:=fun i x hx=>(cV.mp hx).elim (sub x) fun h=>by
    obtain ⟨t,h1,rfl⟩:=List.mem_map.mp h
    exact tsub t (List.mem_of_mem_take h1)
   refine⟨fun i δ=>∃ x y z,δ=[.dat (.tup [.str (kdS k),.tup (ts.map tmD),.int b]),.own oa (.dct (cj ks ((ts.take i).map (·.1))) (c6 (cj ks ((ts.take i).map (·.1))).length)),x,y,z],⟨_,_,_,rfl⟩,?_,?_⟩
   ·rintro i d δ hd ⟨x,y,z,rfl⟩
    obtain ⟨t,hn,rfl⟩:=b8 hd
    walk_at "rd"
    have l1:=dD (fm (l:=(ts.take i).map (·.1)) nd) (sub2 i)
    refine⟨by omega,?_⟩
    rw [qN,aG hn,List.map_append,ff]
    exact⟨rfl,rfl⟩
   ·rintro δ ⟨x,y,z,rfl⟩
    rw [List.length_map,List.take_length]
    exact⟨_,rfl,q⟩
  | nt s=>cases hrow
  | bo s t=>cases hrow
  | ei s t=>cases hrow
 | false =>
  refine ifn Bool.false_ne_true ?_
  simp only [ja]
  rw [Say.D_subs hrow]
  walk_at "rd"
  refine⟨fun ⟨h,_⟩=>?_,?_⟩
  ·rw [show (some (1:Int))=some ((1:Nat):Int) from rfl,HT.sIx_nat] at h
   omega
  rw [tV]
  have sub2:∀ i,∀ x∈cj ks ((s.subs.take i).flatMap Say.nms),x∈names:=fun i x hx=>(cV.mp hx).elim (sub x) fun h=>by
   obtain ⟨u,h1,h2⟩:=List.mem_flatMap.mp h
   exact Say.nms_sub (Say.subs_ok (List.mem_of_mem_take h1) ok) x h2
  refine⟨fun i δ=>∃ x y z,δ=[.dat (.tup (.str s.word :: s.subs.map Say.D)),.own oa (.dct (cj ks ((s.subs.take i).flatMap Say.nms)) (c6 (cj ks ((s.subs.take i).flatMap Say.nms)).length)),x,y,z],⟨_,_,_,rfl⟩,?_,?_⟩
  ·rintro i d δ hd2 ⟨x,y,z,rfl⟩
   rw [List.getElem?_map] at hd2
   cases hu:s.subs[i]? with
   | none=>rw [hu] at hd2;cases hd2
   | some u =>
    rw [hu] at hd2
    cases hd2
    have hm:=List.mem_of_getElem? hu
    have dp:=Say.subs_dep hm
    walk_at "rd"
    refine⟨names,u,_,rfl,by omega,Say.subs_ok hm ok,hl,fm nd,sub2 i,rfl,?_⟩
    walk_at "rd"
    rw [aG hu,List.flatMap_append,List.flatMap_singleton,ff]
    exact⟨rfl,rfl⟩
  ·rintro δ ⟨x,y,z,rfl⟩
   rw [List.length_map,List.take_length,← Say.nms_subs hrow]
   exact⟨_,rfl,q⟩
inductive d7 (ds:List D) (R:D→Prop):Prop
 | mk (names s:_) (hh:ds=[Say.D s]∧s.dep≤60∧s.ok names∧names.length≤60∧∀ ss:List Str,ss.Nodup→(∀ x,x∈ss↔x∈s.nms)→Srt ss→R (.lst (ss.map D.str)))
theorem iB:∀ ds R,d7 ds R→ds.length=1:=fun _ _ ⟨_,_,e,_⟩=>by rw [e];rfl
theorem ir:ax ["saying","found"] ["saying"] (ak s_names_of):=⟨rfl,rfl,rfl,by decide +kernel,rfl,by decide +kernel,by decide +kernel⟩
theorem j8 (F:Fd K mg "names_of" s_names_of ["saying"]) (bh:Cal P w K mg base 62 "mark_names" ["saying","found"] (spO1 K (a4 60))) (aQ:mg "sorted"=none):Cal P w K mg base 63 "names_of" ["saying"] (spD K d7):=by
 refine fn_D F ir iB fun fa cdv A outer s H E ds R hr h=>?_
 have hU:=hr.units
 refine⟨_,(ad (eK 1 ir.nd) (ad (pH (j9 1 bh (rm hr) rfl (de_v 0))) (bJ 1 (af (ay (aM (de rfl) rfl aQ c5 (ac (de_v 1) ag))))))),?_⟩
 obtain ⟨names,s,rfl,hd,ok,hl,q⟩:=h
 walk_at "rd"
 refine⟨names,s,[],rfl,hd,ok,by omega,List.nodup_nil,fun k h=>(nomatch h),rfl,?_⟩
 walk_at "rd"
 have nd:(cj [] s.nms).Nodup:=fm List.nodup_nil
 have sub:∀ x∈cj [] s.nms,x∈names:=fun x hx=>(cV.mp hx).elim (fun h=>(nomatch h)) (Say.nms_sub ok x)
 refine⟨by have:=dD nd sub;omega,fun ss hp hs=>q ss (hp.nodup_iff.mpr nd) (fun x=>?_) hs⟩
 rw [hp.mem_iff,cV]
 simp
inductive fb (ds:List D) (R:D→Prop):Prop
 | mk (names ks ps T κ:_) (hh:ds=[.lst (names.map D.str),.dct ks (ps.map frD)]∧names.Nodup∧names.length≤60∧(∀ n∈names,n∈ks)∧Pt ks ps T∧T≤1000000∧ib (bot (pB ks ps) ks)≤κ∧κ≤7990 ∧
 R (.tup [.dct names (names.map fun n=>.int (ov (pT ks ps) (pB ks ps) (bot (pB ks ps) names) n)),.int (bot (pB ks ps) names)]))
theorem jc:∀ ds R,fb ds R→ds.length=2:=fun _ _ ⟨_,_,_,_,_,e,_⟩=>by rw [e];rfl
theorem kC {q:Str→Int} {l ks:List Str} {κ:Nat} (nd:l.Nodup) (h:∀ n∈l,n∈ks) (hp:∀ n∈ks,0 < q n) (hb:ib (bot q ks)≤κ):ib (bot q l)≤κ:=d8 (lY nd h) (by have:=cD hp;omega) hb
theorem bV:ax ["names","point","bottom","name","tops","value"] ["names","point"] (ak s_tops_of):=⟨rfl,rfl,rfl,by decide +kernel,rfl,by decide +kernel,by decide +kernel⟩
theorem mn (F:Fd K mg "tops_of" s_tops_of ["names","point"]):Cal P w K mg base 1 "tops_of" ["names","point"] (spD K fb):=by
 refine fn_D F bV jc fun fa cdv A outer s H E ds R hr h=>?_
 have hU:=hr.units
 refine⟨_,(ad (aB 2 bV.nd ae) (ad (cU PassesOwn.never rfl (de_v 0) (am 3 bV.nd) (ad (a7 (aI (xE hU) (de_v 3) (de_v 1) rfl) km aH) (af (aB 2 bV.nd (aC bB (de_v 2) (aw au (cT hU (de_v 1) (de_v 3) (fun _ _=>rfl)) ae (fun _ _=>rfl))))))) (ad (eK 4 bV.nd) (ad (cU PassesOwn.never rfl (de_v 0) (am 3 bV.nd) (ad (aB 5 bV.nd (cT hU (de_v 1) (de_v 3) (fun _ _=>rfl))) (af (dL 4 hU (aC bB (aw au (de_v 5) ae (fun _ _=>rfl)) (aC dU (de_v 2) (aw au (de_v 5) ae (fun _ _=>rfl)))) (de_v 3))))) (bJ 4 (af (ay (bN (ac (de_v 4) (ac (de_v 2) ag)))))))))),?_⟩
 obtain ⟨names,ks,ps,T,κ,rfl,nd,hl,hin,hp,hT,hb,hκ,q⟩:=h
 have pos:∀ n∈ks,0 < pB ks ps n:=fun n hn=>hp.pos hn
 have bb:ib (bot (pB ks ps) names)≤κ:=kC nd hin pos hb
 have bt:∀ i,ib (bot (pB ks ps) (names.take i))≤κ:=fun i=>kC (nd.sublist (List.take_sublist ..)) (fun n hn=>hin n (List.mem_of_mem_take hn)) pos hb
 have b1:∀ n∈ks,ib (pB ks ps n)≤κ:=fun n hn=>d8 (dJ hn) (by have:=cD pos;omega) hb
 walk_at "rd"
 simp only [pJ]
 walk_at "rd"
 refine⟨fun i δ=>∃ x y z,δ=[.dat (.lst (names.map D.str)),.dat (.dct ks (ps.map frD)),.dat (.int (bot (pB ks ps) (names.take i))),x,y,z],⟨_,_,_,rfl⟩,?_,?_⟩
 ·rintro i d δ hd ⟨x,y,z,rfl⟩
  obtain ⟨n,hn,rfl⟩:=fc hd
  have hk:=hin n (pD hn)
  walk_at "rd"
  refine ifn (fun z=>z hk) ?_
  refine⟨_,hp.D hk,?_⟩
  walk_at "rd"
  refine⟨mo2 (bt i) (b1 n hk) (by omega),?_⟩
  rw [aG hn,fN,mf]
 ·rintro δ ⟨x,y,z,rfl⟩
  intro a
  rw [List.length_map,List.take_length]
  simp only [pJ]
  walk_at "rd"
  refine⟨fun i δ=>∃ x z,δ=[.dat (.lst (names.map D.str)),.dat (.dct ks (ps.map frD)),.dat (.int (bot (pB ks ps) names)),x,.own a (.dct (names.take i) ((names.take i).map fun n=>.int (ov (pT ks ps) (pB ks ps) (bot (pB ks ps) names) n))),z],⟨_,_,rfl⟩,?_,?_⟩
  ·rintro i d δ hd ⟨x,z,rfl⟩
   obtain ⟨n,hn,rfl⟩:=fc hd
   have hk:=hin n (pD hn)
   have hnt:=uB nd hn
   walk_at "rd"
   refine⟨_,hp.D hk,?_⟩
   walk_at "rd"
   have qn:pB ks ps n≠0:=by have:=hp.pos hk;omega
   refine⟨⟨qn,o7 (b1 n hk) (by omega)⟩,mo2 (hp.Tb hk) (intBits_fdiv_le bb) (by omega),?_⟩
   refine⟨by rw [List.length_take];omega,?_⟩
   rw [nO hnt,nV hnt,aG hn,List.map_append]
   exact⟨rfl,rfl⟩
  ·rintro δ ⟨x,z,rfl⟩
   rw [List.length_map,List.take_length]
   walk_at "rd"
   exact q
inductive cM (ds:List D) (R:D→Prop):Prop
 | mk (k:Bool) (ts:List (Str×Int)) (ks:List Str) (vs:List D) (f:Str→Int) (hh:ds=[sq k (ts.map tmD),.dct ks vs]∧(∀ t∈ts,dAt ks vs t.1=some (.int (f t.1))∧ib t.2≤60000∧ib (f t.1)≤2000000)∧R (.int (sumT f ts)))
theorem gj:∀ ds R,cM ds R→ds.length=2:=fun _ _ ⟨_,_,_,_,_,e,_⟩=>by rw [e];rfl
theorem bQ:ax ["terms","tops","top","name","weight"] ["terms","tops"] (ak s_top_of_sum):=⟨rfl,rfl,rfl,by decide +kernel,rfl,by decide +kernel,by decide +kernel⟩
theorem iA (F:Fd K mg "top_of_sum" s_top_of_sum ["terms","tops"]):Cal P w K mg base 1 "top_of_sum" ["terms","tops"] (spD K cM):=by
 refine fn_D F bQ gj fun fa cdv A outer s H E ds R hr h=>?_
 have hU:=hr.units
 refine⟨_,(ad (aB 2 bQ.nd ae) (ad (fZ PassesOwn.never rfl (Bp (de_v 0)) (b7 (n:=2) rfl (aF (am 3 bQ.nd) (aF (am 4 bQ.nd) bn))) (af (aB 2 bQ.nd (aC bC (de_v 2) (aC bB (de_v 4) (cT hU (de_v 1) (de_v 3) (fun _ _=>rfl))))))) (af (ay (de_v 2))))),?_⟩
 obtain ⟨k,ts,ks,vs,f,rfl,ht,q⟩:=h
 walk_at "rd"
 refine dX fun F N hF hN=>?_
 simp only [jH]
 walk_at "rd"
 refine⟨k,ts.map tmD,rfl,fun i δ=>∃ x y,δ=[.dat (sq k (ts.map tmD)),.dat (.dct ks vs),.dat (.int (sumT f (ts.take i))),x,y],⟨_,_,rfl⟩,?_,?_⟩
 ·rintro i d δ hd ⟨x,y,rfl⟩
  obtain ⟨t,hn,rfl⟩:=b8 hd
  obtain ⟨h1,h2,h3⟩:=ht t (List.mem_of_getElem? hn)
  rw [hF]
  walk_at "rd"
  refine⟨_,h1,?_⟩
  walk_at "rd"
  refine⟨mo2 h2 h3,?_⟩
  rw [aG hn,gC,mP]
 ·rintro δ ⟨x,y,rfl⟩
  rw [List.length_map,List.take_length,hN]
  walk_at "rd"
  exact q
def ms (k:Kd) (s b:Int):Bool:=match k with
 | .least=>decide (b≤s)
 | .more=>decide (b < s)
def Say.so (f:Str→Int) (B:Int):Say→Bool
 | .row k ts b=>ms k (sumT f ts) (b * B)
 | .nt s=>!s.so f B
 | .bo s t=>s.so f B && t.so f B
 | .ei s t=>s.so f B || t.so f B
def oP (p q:Str→Int) (k:Kd) (ts:List (Str×Int)) (b:Int):Bool:=ms k (sumT (ov p q (bot q (ts.map (·.1)))) ts) (b * bot q (ts.map (·.1)))
def Say.tv (p q:Str→Int):Say→Bool
 | .row k ts b=>oP p q k ts b
 | .nt s=>!s.tv p q
 | .bo s t=>s.tv p q && t.tv p q
 | .ei s t=>s.tv p q || t.tv p q
theorem zx {p q:Str→Int} {B:Int} {k:Kd} {ts:List (Str×Int)} {b:Int} (hB:0 < B) (h:∀ t∈ts,0 < q t.1∧q t.1 ∣ B):ms k (sumT (ov p q B) ts) (b * B)=oP p q k ts b:=by
 have hC:0 < bot q (ts.map (·.1)):=cD fun n hn=>by
  obtain ⟨t,h1,rfl⟩:=List.mem_map.mp hn
  exact (h t h1).1
 have e:=qL (p:=p) (q:=q) (B:=B) (C:=bot q (ts.map (·.1))) (ts:=ts) fun t h1=>⟨by have:=(h t h1).1;omega,(h t h1).2,dJ (List.mem_map.mpr ⟨t,h1,rfl⟩)⟩
 unfold oP
 cases k with
 | least=>exact decide_eq_decide.mpr (sZ (a:=0) hB hC e)
 | more=>exact decide_eq_decide.mpr (tz hB hC e)
theorem Say.so_tv {p q:Str→Int} {B:Int} (hB:0 < B):∀ {s:Say},(∀ n∈s.nms,0 < q n∧q n ∣ B)→s.so (ov p q B) B=s.tv p q
 | .row k ts b,h=>zx hB fun t h1=>h t.1 (List.mem_map.mpr ⟨t,h1,rfl⟩)
 | .nt s,h=>by show (!s.so _ _)=!s.tv p q;rw [Say.so_tv (s:=s) hB h]
 | .bo s t,h=>by
  show (s.so _ _ && t.so _ _)=(s.tv p q && t.tv p q)
  rw [Say.so_tv (s:=s) hB fun n hn=>h n (List.mem_append_left _ hn),Say.so_tv (s:=t) hB fun n hn=>h n (List.mem_append_right _ hn)]
 | .ei s t,h=>by
  show (s.so _ _ || t.so _ _)=(s.tv p q || t.tv p q)
  rw [Say.so_tv (s:=s) hB fun n hn=>h n (List.mem_append_left _ hn),Say.so_tv (s:=t) hB fun n hn=>h n (List.mem_append_right _ hn)]
inductive eG (ds:List D) (R:D→Prop):Prop
 | mk (k:Kd) (ts:List (Str×Int)) (b:Int) (ks:List Str) (vs:List D) (f:Str→Int) (B:Int) (hh:ds=[rowD k ts b,.dct ks vs,.int B]∧(∀ t∈ts,dAt ks vs t.1=some (.int (f t.1))∧ib t.2≤60000∧ib (f t.1)≤2000000)∧ib b≤60000∧ib B≤8000∧R (.bl (ms k (sumT f ts) (b * B))))
theorem hV:∀ ds R,eG ds R→ds.length=3:=fun _ _ ⟨_,_,_,_,_,_,_,e,_⟩=>by rw [e];rfl
theorem dW:ax ["row","tops","bottom","top","bound"] ["row","tops","bottom"] (ak s_row_is_so):=⟨rfl,rfl,rfl,by decide +kernel,rfl,by decide +kernel,by decide +kernel⟩
theorem jF (F:Fd K mg "row_is_so" s_row_is_so ["row","tops","bottom"]) (bL:Cal P w K mg base 1 "top_of_sum" ["terms","tops"] (spD K (cM))):Cal P w K mg base 2 "row_is_so" ["row","tops","bottom"] (spD K eG):=by
 refine fn_D F dW hV fun fa cdv A outer s H E ds R hr h=>?_
 have hU:=hr.units
 refine⟨_,(ad (aB 3 dW.nd (av bL (rm hr) rfl (ac (aw au (de_v 0) ae (fun _ _=>rfl)) (ac (de_v 1) ag)))) (ad (aB 4 dW.nd (aC bB (aw au (de_v 0) ae (fun _ _=>rfl)) (de_v 2))) (ad (a7 (aI (o_eq hU) (aw au (de_v 0) ae (fun _ _=>rfl)) bm (ar _)) (af (ay (bT o_ge (de_v 3) (de_v 4) (ar _)))) aH) (af (ay (bT o_gt (de_v 3) (de_v 4) (ar _))))))),?_⟩
 obtain ⟨k,ts,b,ks,vs,f,B,rfl,ht,hb,hB,q⟩:=h
 unfold rowD
 walk_at "rd"
 refine⟨false,ts,ks,vs,f,rfl,ht,?_⟩
 walk_at "rd"
 refine⟨mo2 hb hB,?_⟩
 cases k with
 | least=>exact ifp rfl q
 | more=>exact ifn (by decide) q
inductive a6 (n:Nat) (ds:List D) (R:D→Prop):Prop
 | mk (s:Say) (ks:List Str) (vs:List D) (f:Str→Int) (B:Int) (names:List Str) (hh:ds=[s.D,.dct ks vs,.int B]∧s.dep≤n∧s.ok names∧(∀ x∈s.nms,dAt ks vs x=some (.int (f x))∧Builtin.Int.intBits (f x)≤2000000)∧Builtin.Int.intBits B≤8000∧R (.bl (s.so f B)))
theorem gb (n:Nat):∀ ds R,a6 n ds R→ds.length=3:=fun _ _ ⟨_,_,_,_,_,_,e,_⟩=>by rw [e];rfl
theorem fO:∀ ds R,¬ a6 0 ds R:=fun _ _ ⟨s,_,_,_,_,_,_,h,_⟩=>by have:=s.dep_pos;omega
theorem fh:ax ["saying","tops","bottom","first"] ["saying","tops","bottom"] (ak s_part_is_so):=⟨rfl,rfl,rfl,by decide +kernel,rfl,by decide +kernel,by decide +kernel⟩
theorem iH (F:Fd K mg "part_is_so" s_part_is_so ["saying","tops","bottom"]) (ee:Cal P w K mg base 1 "is_row" ["saying"] (spD K (gx))) (eX:Cal P w K mg base 2 "row_is_so" ["row","tops","bottom"] (spD K (eG))) {n:Nat} (aW:Cal P w K mg base (3 + n) "part_is_so" ["saying","tops","bottom"] (spD K (a6 n))):Cal P w K mg base (3 + n + 1) "part_is_so" ["saying","tops","bottom"] (spD K (a6 (n + 1))):=by
 refine fn_D (k:=3 + n) F fh (gb (n + 1)) fun fa cdv A outer s H E ds R hr h=>?_
 have hU:=hr.units
 refine⟨_,(ad (a7 (cP (av ee (hr.mono (by omega)) rfl (ac (de_v 0) ag))) (af (ay (av eX (hr.mono (by omega)) rfl (ac (de_v 0) (ac (de_v 1) (ac (de_v 2) ag)))))) aH) (ad (aB 3 fh.nd (av aW (hr.mono (by omega)) rfl (ac (aw au (de_v 0) ae (fun _ _=>rfl)) (ac (de_v 1) (ac (de_v 2) ag))))) (ad (a7 (aI (o_eq hU) (aw au (de_v 0) ae (fun _ _=>rfl)) bm (ar _)) (af (ay (uJ (de_v 3)))) aH) (ad (a7 (aI (o_eq hU) (aw au (de_v 0) ae (fun _ _=>rfl)) bm (ar _)) (af (ay (io (de_v 3) (dw (av aW (hr.mono (by omega)) rfl (ac (aw au (de_v 0) ae (fun _ _=>rfl)) (ac (de_v 1) (ac (de_v 2) ag)))))))) aH) (af (ay (rT (de_v 3) (dw (av aW (hr.mono (by omega)) rfl (ac (aw au (de_v 0) ae (fun _ _=>rfl)) (ac (de_v 1) (ac (de_v 2) ag)))))))))))),?_⟩
 obtain ⟨s,ks,vs,f,B,names,rfl,hd,ok,hf,hB,q⟩:=h
 walk_at "rd"
 refine⟨s,rfl,?_⟩
 walk_at "rd"
 cases s with
 | row k ts b =>
  refine ifp rfl ⟨k,ts,b,ks,vs,f,B,rfl,fun t h1=>?_,Nat.le_trans ok.2 (by decide),hB,q⟩
  obtain ⟨h2,h3⟩:=hf t.1 (List.mem_map.mpr ⟨t,h1,rfl⟩)
  exact⟨h2,Nat.le_trans (ok.1.bits t h1) (by decide),h3⟩
 | nt s =>
  refine ifn Bool.false_ne_true ?_
  unfold Say.D
  walk_at "rd"
  have hd:s.dep + 1≤n + 1:=hd
  refine⟨s,ks,vs,f,B,names,rfl,by omega,ok,hf,hB,?_⟩
  walk_at "rd"
  exact q
 | bo s t =>
  refine ifn Bool.false_ne_true ?_
  unfold Say.D
  walk_at "rd"
  have hd:max s.dep t.dep + 1≤n + 1:=hd
  refine⟨s,ks,vs,f,B,names,rfl,by omega,ok.1,fun x h=>hf x (List.mem_append_left _ h),hB,?_⟩
  walk_at "rd"
  refine ifn (by decide) ?_
  have q:R (.bl (s.so f B && t.so f B)):=q
  cases e:s.so f B with
  | true =>
   rw [e,Bool.true_and] at q
   exact ifp rfl ⟨t,ks,vs,f,B,names,rfl,by omega,ok.2,fun x h=>hf x (List.mem_append_right _ h),hB,q⟩
  | false =>
   rw [e,Bool.false_and] at q
   exact ifn Bool.false_ne_true q
 | ei s t =>
  refine ifn Bool.false_ne_true ?_
  unfold Say.D
  walk_at "rd"
  have hd:max s.dep t.dep + 1≤n + 1:=hd
  refine⟨s,ks,vs,f,B,names,rfl,by omega,ok.1,fun x h=>hf x (List.mem_append_left _ h),hB,?_⟩
  walk_at "rd"
  refine ifn (by decide) (ifn (by decide) ?_)
  have q:R (.bl (s.so f B || t.so f B)):=q
  cases e:s.so f B with
  | true =>
   rw [e,Bool.true_or] at q
   exact ifp rfl q
  | false =>
   rw [e,Bool.false_or] at q
   exact ifn Bool.false_ne_true ⟨t,ks,vs,f,B,names,rfl,by omega,ok.2,fun x h=>hf x (List.mem_append_right _ h),hB,q⟩
inductive mG (ds:List D) (R:D→Prop):Prop
 | mk (s:Say) (ks:List Str) (ps:List (Int×Int)) (names:List Str) (T κ:Nat) (hh:ds=[s.D,.dct ks (ps.map frD)]∧s.dep≤60∧s.ok names∧names.length≤60∧(∀ x∈s.nms,x∈ks)∧Pt ks ps T∧T≤1000000∧ib (bot (pB ks ps) ks)≤κ∧κ≤7990∧R (.bl (s.tv (pT ks ps) (pB ks ps))))
theorem lm:∀ ds R,mG ds R→ds.length=2:=fun _ _ ⟨_,_,_,_,_,_,e,_⟩=>by rw [e];rfl
theorem mN:ax ["saying","point","known"] ["saying","point"] (ak s_is_so):=⟨rfl,rfl,rfl,by decide +kernel,rfl,by decide +kernel,by decide +kernel⟩
theorem pL (F:Fd K mg "is_so" s_is_so ["saying","point"]) (cX:Cal P w K mg base 1 "tops_of" ["names","point"] (spD K (fb))) (cx:Cal P w K mg base 63 "names_of" ["saying"] (spD K (d7))) (aW:Cal P w K mg base 63 "part_is_so" ["saying","tops","bottom"] (spD K (a6 60))):Cal P w K mg base 64 "is_so" ["saying","point"] (spD K mG):=by
 refine fn_D F mN lm fun fa cdv A outer s H E ds R hr h=>?_
 have hU:=hr.units
 refine⟨_,(ad (aB 2 mN.nd (av cX (rm hr) rfl (ac (av cx (rm hr) rfl (ac (de_v 0) ag)) (ac (de_v 1) ag)))) (af (ay (av aW (rm hr) rfl (ac (de_v 0) (ac (aw au (de_v 2) ae (fun _ _=>rfl)) (ac (aw au (de_v 2) ae (fun _ _=>rfl)) ag))))))),?_⟩
 obtain ⟨s,ks,ps,names,T,κ,rfl,hd,ok,hl,hin,hp,hT,hb,hκ,q⟩:=h
 walk_at "rd"
 refine⟨names,s,rfl,hd,ok,hl,fun ss nd hm hs=>?_⟩
 have hs2:∀ n∈ss,n∈ks:=fun n hn=>hin n ((hm n).mp hn)
 have l60:ss.length≤60:=Nat.le_trans (dD nd fun k hk=>Say.nms_sub ok k ((hm k).mp hk)) hl
 refine⟨ss,ks,ps,T,κ,rfl,nd,by omega,hs2,hp,hT,hb,hκ,?_⟩
 walk_at "rd"
 have bp:=cD (q:=pB ks ps) (l:=ss) fun n hn=>hp.pos (hs2 n hn)
 have bb:=kC (q:=pB ks ps) nd hs2 (fun n hn=>hp.pos hn) hb
 refine⟨s,ss,_,_,_,names,rfl,hd,ok,fun x hx=>⟨cv (fun n=>D.int (ov (pT ks ps) (pB ks ps) (bot (pB ks ps) ss) n)) ((hm x).mpr hx),Nat.le_trans (intBits_mul_le (hp.Tb (hin x hx)) (intBits_fdiv_le bb)) (by omega)⟩,Nat.le_trans bb (by omega),?_⟩
 rw [Say.so_tv bp fun n hn=>⟨hp.pos (hin n hn),dJ ((hm n).mpr hn)⟩]
 exact q
inductive lM (ds:List D) (R:D→Prop):Prop
 | mk (rows:List Rw) (ws:List Int) (nm:List Str) (hh:ds=[.lst (rows.map rwD),.tup (ws.map D.int)]∧nm.length≤60∧(∀ r∈rows,RwOk nm 60000000 r)∧(∀ w∈ws,Builtin.Int.intBits w≤60000000) ∧
 ∀ ts,dB (cfs (rows.zip ws)) ts→R (rowD (kOf (stc (rows.zip ws))) ts (bds (rows.zip ws))))
theorem ml:∀ ds R,lM ds R→ds.length=2:=fun _ _ ⟨_,_,_,e,_⟩=>by rw [e];rfl
theorem bP:ax ["rows","weights","word","sums","bound","row","often","name","weight","terms"] ["rows","weights"] (ak s_added):=⟨rfl,rfl,rfl,by decide +kernel,rfl,by decide +kernel,by decide +kernel⟩
theorem qq (F:Fd K mg "added" s_added ["rows","weights"]) (et:mg "zip"=none) (aR:mg "tuple"=none) (aQ:mg "sorted"=none):Cal P w K mg base 1 "added" ["rows","weights"] (spD K lM):=by
 refine fn_D F bP ml fun fa cdv A outer s H E ds R hr h=>?_
 have hU:=hr.units
 refine⟨_,(ad (aB 2 bP.nd bm) (ad (eK 3 bP.nd) (ad (aB 4 bP.nd ae) (ad (fZ PassesOwn.never rfl (kG true false rfl et (ac (de_v 0) (ac (de_v 1) ag))) (b7 (n:=2) rfl (aF (am 5 bP.nd) (aF (am 6 bP.nd) bn))) (ad (a7 (DW.dt (kn (aI (o_eq hU) (aw au (de_v 5) ae (fun _ _=>rfl)) bm (ar _)) (jb (aI o_gt (de_v 6) ae (ar _))))) (af (aB 2 bP.nd bm)) aH) (ad (dZ PassesOwn.never rfl (aw au (de_v 5) ae (fun _ _=>rfl)) (b7 (n:=2) rfl (aF (am 7 bP.nd) (aF (am 8 bP.nd) bn))) (af (dL 3 hU (aC bC (lx 3 hU (de_v 7) ae) (aC bB (de_v 6) (de_v 8))) (de_v 7)))) (af (aB 4 bP.nd (aC bC (de_v 4) (aC bB (de_v 6) (aw au (de_v 5) ae (fun _ _=>rfl))))))))) (bJ 3 (ad (aB 9 bP.nd (dH jG rfl aR dS (ac (dk ["name"] [(3,"sums")] rfl rfl (by decide +kernel) rfl (by decide +kernel) (cB ⟨rfl,trivial⟩) (cF rfl) (bG ⟨⟨rfl,rfl,.inl rfl⟩,trivial⟩) (fY (aM (de rfl) rfl aQ c5 (ac (de_v 3) ag))) fun _ _ _ _ _=>⟨(am 0 (show List.Nodup (["name","sums"]:List Str) by decide +kernel)),(ft (aI (fQ hU) (cT hU (de_v 1) (de_v 0) (fun _ _=>rfl)) ae (ar _))),(bN (ac (de_v 0) (ac (cT hU (de_v 1) (de_v 0) (fun _ _=>rfl)) ag)))⟩) ag))) (af (ay (bN (ac (de_v 2) (ac (de_v 9) (ac (de_v 4) ag)))))))))))),?_⟩
 obtain ⟨rows,ws,nm,rfl,hnm,hr,hw,q⟩:=h
 walk_at "rd"
 intro da
 refine dX fun B N hB hN=>?_
 simp only [jH]
 walk_at "rd"
 rw [ng]
 generalize hl:rows.zip ws=l at q ⊢
 have hl1:∀ p∈l,RwOk nm 60000000 p.1∧Builtin.Int.intBits p.2≤60000000:=fun p hp=>by
  rw [← hl] at hp
  exact⟨hr _ (List.of_mem_zip hp).1,hw _ (List.of_mem_zip hp).2⟩
 clear hl hr hw
 refine⟨fun i δ=>∃ ks u v w z y,δ=[.dat (.lst (rows.map rwD)),.dat (.tup (ws.map D.int)),.dat (.str (kdS (kOf (stc (l.take i))))),.own da (.dct ks (ks.map fun n=>.int (cfs (l.take i) n))),.dat (.int (bds (l.take i))),u,v,w,z,y]∧ks.Nodup∧(∀ n∈ks,n∈nm)∧∀ n,n∉ks→cfs (l.take i) n=0,
  ⟨[],_,_,_,_,_,rfl,List.nodup_nil,fun n h=>(nomatch h),fun n h=>rfl⟩,?_,?_⟩
 ·rintro i d δ hd ⟨ks,u,v,w,z,y,rfl,nd,hs,h0⟩
  rw [List.getElem?_map] at hd
  cases hn:l[i]? with
  | none=>rw [hn] at hd;cases hd
  | some p =>
   rw [hn] at hd
   cases hd
   obtain ⟨⟨k,ts,b⟩,c⟩:=p
   obtain ⟨ok,bc⟩:=hl1 _ (List.mem_of_getElem? hn)
   have htk:=aG hn
   rw [hB]
   show jP _ _ (.tup [.tup [.str (kdS k),.tup (ts.map tmD),.int b],.int c]) _ _
   refine cK fun K hK=>?_
   walk_at "rd"
   have go:∀ wd,wd=kdS (kOf (stc (l.take (i + 1))))→K [.dat (.lst (rows.map rwD)),.dat (.tup (ws.map D.int)),.dat (.str wd),.own da (.dct ks (ks.map fun n=>.int (cfs (l.take i) n))),.dat (.int (bds (l.take i))),.dat (.tup [.str (kdS k),.tup (ts.map tmD),.int b]),.dat (.int c),w,z,y]:=?_
   ·have e:stc (l.take (i + 1))=(stc (l.take i) || (isM k && decide (0 < c))):=by rw [htk,qk,sC]
    cases k with
    | least =>
     refine ifn (by decide) (go _ ?_)
     rw [e]
     simp only [isM,Bool.false_and,Bool.or_false]
    | more =>
     refine ifp rfl (ite2 (fun hc=>go _ ?_) fun hc=>go _ ?_)
     ·rw [e,decide_eq_true hc]
      simp only [isM,Bool.and_true,Bool.or_true]
      rfl
     ·rw [e,decide_eq_false hc]
      simp only [isM,Bool.and_false,Bool.or_false]
   intro wd hwd
   rw [hK]
   refine ap fun K2 hK2=>?_
   simp only [ja]
   walk_at "rd"
   refine⟨fun j δ=>∃ ks w z y,δ=[.dat (.lst (rows.map rwD)),.dat (.tup (ws.map D.int)),.dat (.str wd),.own da (.dct ks (ks.map fun n=>.int (cfs (l.take i) n + c * cf (ts.take j) n))),.dat (.int (bds (l.take i))),.dat (.tup [.str (kdS k),.tup (ts.map tmD),.int b]),.dat (.int c),w,z,y]∧ks.Nodup∧(∀ n∈ks,n∈nm)∧∀ n,n∉ks→cfs (l.take i) n + c * cf (ts.take j) n=0,
    ⟨ks,w,z,y,by simp only [List.take_zero,cf,Int.mul_zero,Int.add_zero],nd,hs,fun n hn=>by rw [h0 n hn,List.take_zero];show 0 + c * 0=0;omega⟩,?_,?_⟩
   ·rintro j d δ hd ⟨ks,w,z,y,rfl,nd,hs,h0⟩
    obtain ⟨t,ht,rfl⟩:=b8 hd
    have htm:=List.mem_of_getElem? ht
    have hj:=aG ht
    walk_at "rd"
    rw [ju (h0 t.1)]
    refine⟨mo2 bc (ok.bw t htm),by have:=dD nd hs;omega,?_,fR nd,fun n hn=>?_,fun n hn=>?_⟩
    ·have e:∀ n,cfs (l.take i) n + c * cf (ts.take (j + 1)) n=(cfs (l.take i) n + c * cf (ts.take j) n) + c * (if t.1=n then t.2 else 0):=fun n=>by
      rw [hj,ig,Int.mul_add]
      show _ + (_ + c * ((if t.1=n then t.2 else 0) + 0))=_
      rw [Int.add_zero,Int.add_assoc]
     have:=lQ (ks:=ks) (x:=t.1) (f:=fun n=>D.int (cfs (l.take i) n + c * cf (ts.take j) n)) (g:=fun n=>D.int (cfs (l.take i) n + c * cf (ts.take (j + 1)) n)) (fun n hn=>by rw [e,if_neg (fun z=>hn z.symm),Int.mul_zero,Int.add_zero])
     rw [← this,e,if_pos rfl]
    ·rcases cN.mp hn with h | h
     ·exact hs n h
     ·rw [h];exact ok.sub t htm
    ·rw [cN,not_or] at hn
     rw [hj,ig,Int.mul_add,← Int.add_assoc,h0 n hn.1]
     show 0 + c * ((if t.1=n then t.2 else 0) + 0)=0
     rw [if_neg (fun z=>hn.2 z.symm)];omega
   ·rintro δ ⟨ks,w,z,y,rfl,nd,hs,h0⟩
    have e1:ts.take (ts.map tmD).length=ts:=by rw [List.length_map,List.take_length]
    rw [e1] at h0 ⊢
    rw [hK2]
    walk_at "rd"
    have e2:∀ n,cfs (l.take (i + 1)) n=cfs (l.take i) n + c * cf ts n:=fun n=>by
     rw [htk,jp]
     show _ + (c * cf ts n + 0)=_
     rw [Int.add_zero]
    simp only [e2]
    rw [htk,i6]
    exact⟨mo2 bc ok.bb,by rw [← htk];exact hwd,trivial,(by show _=_ + (c * b + 0);rw [Int.add_zero]),nd,hs,fun n hn=>h0 n hn⟩
 ·rintro δ ⟨ks,u,v,w,z,y,rfl,nd,hs,h0⟩
  rw [List.length_map,List.take_length] at h0 ⊢
  rw [hN]
  walk_at "rd"
  have hk:=dD nd hs
  refine⟨by omega,fun ss' pm st=>?_⟩
  have hl':=pm.length_eq
  refine⟨by rw [List.length_map];omega,fun d=>match d with | .str n=>if cfs l n≠0 then some (.tup [.str n,.int (cfs l n)]) else none | _=>none,fun x hx=>?_,?_⟩
  ·obtain ⟨n,hn,rfl⟩:=List.mem_map.mp hx
   have hnk:n∈ks:=pm.mem_iff.mp hn
   walk_at "rd"
   refine⟨_,cv (fun n=>D.int (cfs l n)) hnk,?_⟩
   walk_at "rd"
   refine ite2 (fun hz=>?_) fun hz=>?_
   ·exact⟨_,cv (fun n=>D.int (cfs l n)) hnk,by rw [if_pos hz]⟩
   ·rw [if_neg hz]
  ·have e:(ss'.map D.str).filterMap (fun d=>match d with | .str n=>if cfs l n≠0 then some (D.tup [.str n,.int (cfs l n)]) else none | _=>none)=((ss'.filter fun n=>decide (cfs l n≠0)).map fun n=>(n,cfs l n)).map tmD:=by
    clear hl' pm st
    induction ss' with
    | nil=>rfl
    | cons n r ih =>
     rw [List.map_cons,List.filterMap_cons]
     simp only
     by_cases hz:cfs l n≠0
     ·rw [if_pos hz,List.filter_cons_of_pos (by simpa using hz)]
      simp only [List.map_cons]
      rw [ih];rfl
     ·rw [if_neg hz,List.filter_cons_of_neg (by simpa using hz)]
      exact ih
   rw [e]
   exact q _ (dB.mk' (iV st) (pm.nodup_iff.mpr nd) fun n hn=>pm.mem_iff.mpr (Classical.byContradiction fun z=>hn (h0 n z)))
def smD (nm:List Str) (rows:List Rw) (w:List Int):D:=.tup [rwD (smR nm rows w),.tup (w.map D.int)]
inductive bZ (ds:List D) (R:D→Prop):Prop
 | mk (n:Str) (r:Rw) (hh:ds=[.str n,rwD r]∧(r.2.1.map (·.1)).Nodup∧R (.int (cf r.2.1 n)))
theorem gz:∀ ds R,bZ ds R→ds.length=2:=fun _ _ ⟨_,_,e,_⟩=>by rw [e];rfl
theorem dE:ax ["name","row","found","weight"] ["name","row"] (ak s_weight_of):=⟨rfl,rfl,rfl,by decide +kernel,rfl,by decide +kernel,by decide +kernel⟩
theorem jM (F:Fd K mg "weight_of" s_weight_of ["name","row"]):Cal P w K mg base 1 "weight_of" ["name","row"] (spD K bZ):=by
 refine fn_D F dE gz fun fa cdv A outer s H E ds R hr h=>?_
 have hU:=hr.units
 refine⟨_,(ad (dZ PassesOwn.never rfl (aw au (de_v 1) ae (fun _ _=>rfl)) (b7 (n:=2) rfl (aF (am 2 dE.nd) (aF (am 3 dE.nd) bn))) (af (a7 (aI (o_eq hU) (de_v 2) (de_v 0) (ar _)) (af (ay (de_v 3))) aH))) (af (ay ae))),?_⟩
 obtain ⟨n,⟨k,ts,b⟩,rfl,nd,q⟩:=h
 unfold rwD rowD
 walk_at "rd"
 simp only [ja]
 walk_at "rd"
 refine⟨fun i δ=>∃ x y,δ=[.dat (.str n),.dat (.tup [.str (kdS k),.tup (ts.map tmD),.int b]),x,y]∧n∉(ts.take i).map (·.1),⟨_,_,rfl,by simp⟩,?_,?_⟩
 ·rintro i d δ hd ⟨x,y,rfl,hn⟩
  obtain ⟨t,ht,rfl⟩:=b8 hd
  walk_at "rd"
  refine ite2 (fun e=>?_) (fun e=>?_)
  ·subst e
   have:=jX nd (List.mem_of_getElem? ht)
   simp only at q this
   rw [this] at q
   exact q
  ·rw [aG ht,List.map_append,List.mem_append,not_or]
   exact⟨hn,fun z=>e (List.mem_singleton.mp z).symm⟩
 ·rintro δ ⟨x,y,rfl,hn⟩
  rw [List.length_map,List.take_length] at hn
  have:=iy hn
  simp only at q
  rw [this] at q
  exact q
theorem Ag {α:Type} {f:α→D} {l:List α} {i:Nat} {d:D} (h:(enD (l.map f))[i]?=some d):∃ r,l[i]?=some r∧d=.tup [.int (i:Nat),f r]:=by
 unfold enD at h
 rw [List.getElem?_mapIdx,List.getElem?_map] at h
 cases e:l[i]? with
 | none=>rw [e] at h;cases h
 | some r=>rw [e] at h;exact⟨r,rfl,(Option.some.inj h).symm⟩
theorem yn {xs:List D}:(enD xs).length=xs.length:=by unfold enD;rw [List.length_mapIdx]
inductive lB (ds:List D) (R:D→Prop):Prop
 | mk (rows:List Rw) (nm:List Str) (hh:ds=[.lst (rows.map rwD)]∧Rws nm rows∧rows.length≤60∧R (.lst ((unWs rows.length).map (smD nm rows))))
theorem lf:∀ ds R,lB ds R→ds.length=1:=fun _ _ ⟨_,_,e,_⟩=>by rw [e];rfl
theorem gm:ax ["rows","told","place","row"] ["rows"] (ak s_alone):=⟨rfl,rfl,rfl,by decide +kernel,rfl,by decide +kernel,by decide +kernel⟩
theorem rN (F:Fd K mg "alone" s_alone ["rows"]) (eN:mg "enumerate"=none) (aR:mg "tuple"=none) (bX:mg "range"=none) (bx:mg "len"=none):Cal P w K mg base 1 "alone" ["rows"] (spD K lB):=by
 refine fn_D F gm lf fun fa cdv A outer s H E ds R hr h=>?_
 have hU:=hr.units
 refine⟨_,(ad (ip 1 gm.nd ag) (ad (fZ PassesOwn.never rfl (xC rfl eN (ac (de_v 0) ag)) (b7 (n:=2) rfl (aF (am 2 gm.nd) (aF (am 3 gm.nd) bn))) (af (cw 1 (bN (ac (de_v 3) (ac (dH jG rfl aR dS (ac (dk ["other"] [(2,"place")] rfl rfl (by decide +kernel) rfl (by decide +kernel) (cB ⟨rfl,trivial⟩) (cF rfl) (bG ⟨⟨rfl,rfl,.inl rfl⟩,trivial⟩) (nT rfl bX (ac (aM iJ rfl bx fB (ac (de_v 0) ag)) ag)) fun _ _ _ _ _=>⟨(am 0 (show List.Nodup (["other","place"]:List Str) by decide +kernel)),kR,(yr (aI (o_eq hU) (de_v 0) (de_v 1) (ar _)) ae ae)⟩) ag)) ag)))))) (af (kW 1)))),?_⟩
 obtain ⟨rows,nm,rfl,H,hl,q⟩:=h
 walk_at "rd"
 intro ta
 refine dX fun B N hB hN=>?_
 simp only [jH]
 walk_at "rd"
 refine⟨fun i δ=>∃ x y,δ=[.dat (.lst (rows.map rwD)),.own ta (.lst (((unWs rows.length).take i).map (smD nm rows))),x,y],⟨_,_,rfl⟩,?_,?_⟩
 ·rintro i d δ hd ⟨x,y,rfl⟩
  obtain ⟨r,hr,rfl⟩:=Ag hd
  rw [hB]
  walk_at "rd"
  have hil:i < rows.length:=(List.getElem?_eq_some_iff.mp hr).1
  rw [List.length_map]
  refine⟨by omega,by omega,by simp;omega,fun d=>match d with | .int o=>some (.int (if o=(i:Int) then 1 else 0)) | _=>none,fun x hx=>?_,?_⟩
  ·obtain ⟨o,ho,rfl⟩:=List.mem_map.mp hx
   walk_at "rd"
   refine ite2 (fun e=>?_) (fun e=>?_)
   ·rw [if_pos e]
   ·rw [if_neg e]
  ·have e1:((List.range (rows.length:Int).toNat).map fun (k:Nat)=>D.int (k:Int)).filterMap (fun d=>match d with | .int o=>some (D.int (if o=(i:Int) then 1 else 0)) | _=>none)=(unW rows.length i).map D.int:=by
    unfold unW
    rw [List.map_map,Int.toNat_natCast]
    rw [bO _ (fun (k:Nat)=>D.int (k:Int)) (fun k=>D.int (if k=i then 1 else 0)) _ fun k _=>?_]
    ·rfl
    ·show some (D.int (if (k:Int)=(i:Int) then 1 else 0))=_
     by_cases e:k=i
     ·rw [if_pos e,if_pos (by omega)]
     ·rw [if_neg e,if_neg (by omega)]
   have hu:(unWs rows.length)[i]?=some (unW rows.length i):=by unfold unWs;rw [List.getElem?_map,List.getElem?_range hil];rfl
   rw [e1,aG hu,List.map_append]
   refine⟨by rw [List.length_map,List.length_take];omega,?_⟩
   show _++[D.tup [rwD r,_]]=_++[smD nm rows (unW rows.length i)]
   unfold smD
   rw [ni H hr]
 ·rintro δ ⟨x,y,rfl⟩
  rw [yn,List.length_map,hN]
  walk_at "rd"
  have e:(unWs rows.length).take rows.length=unWs rows.length:=List.take_of_length_le (by unfold unWs;simp)
  rw [e]
  exact q
theorem sU {ws:List Int} {i:Nat} {d:D} (h:(ws.map D.int)[i]?=some d):∃ a,ws[i]?=some a∧d=.int a:=by
 rw [List.getElem?_map] at h
 cases e:ws[i]? with
 | none=>rw [e] at h;cases h
 | some n=>rw [e] at h;exact⟨n,rfl,(Option.some.inj h).symm⟩
theorem vy {ws:List Int} {n:Nat} (hz:∃ w∈ws,w≠0) (hb:∀ w∈ws,ib w≤n):ib (gW ws)≤n:=by
 obtain ⟨w,hw,hn⟩:=hz
 exact d8 (kq hw) hn (hb w hw)
inductive eL (ds:List D) (R:D→Prop):Prop
 | mk (ws:List Int) (hh:ds=[.lst (ws.map D.int)]∧ws.length≤60∧(∃ w∈ws,w≠0)∧(∀ w∈ws,ib w≤8000)∧R (.tup ((shW ws).map D.int)))
theorem gD:∀ ds R,eL ds R→ds.length=1:=fun _ _ ⟨_,e,_⟩=>by rw [e];rfl
theorem cI:ax ["weights","divisor","weight"] ["weights"] (ak s_shortened):=⟨rfl,rfl,rfl,by decide +kernel,rfl,by decide +kernel,by decide +kernel⟩
theorem jz (F:Fd K mg "shortened" s_shortened ["weights"]) (aV:Cal P w K mg base 1 "common_divisor" ["one","other"] (spD K (bD))) (aR:mg "tuple"=none):Cal P w K mg base 2 "shortened" ["weights"] (spD K eL):=by
 refine fn_D F cI gD fun fa cdv A outer s H E ds R hr h=>?_
 have hU:=hr.units
 refine⟨_,(ad (aB 1 cI.nd ae) (ad (cU PassesOwn.never rfl (de_v 0) (am 2 cI.nd) (af (aB 1 cI.nd (av aV (rm hr) rfl (ac (de_v 1) (ac (de_v 2) ag)))))) (af (ay (dH jG rfl aR dS (ac (dk ["weight"] [(1,"divisor")] rfl rfl (by decide +kernel) rfl (by decide +kernel) (cB ⟨rfl,trivial⟩) (cF rfl) (bG ⟨⟨rfl,rfl,.inl rfl⟩,trivial⟩) (fY (de_v 0)) fun _ _ _ _ _=>⟨(am 0 (show List.Nodup (["weight","divisor"]:List Str) by decide +kernel)),kR,(aC dU (de_v 0) (de_v 1))⟩) ag)))))),?_⟩
 obtain ⟨ws,rfl,hl,hz,hb,q⟩:=h
 walk_at "rd"
 simp only [pJ]
 walk_at "rd"
 refine⟨fun i δ=>∃ x,δ=[.dat (.lst (ws.map D.int)),.dat (.int ((ws.take i).foldl gc 0)),x],⟨_,rfl⟩,?_,?_⟩
 ·rintro i d δ hd ⟨x,rfl⟩
  obtain ⟨a,ha,rfl⟩:=sU hd
  walk_at "rd"
  refine⟨_,_,rfl,?_⟩
  walk_at "rd"
  rw [aG ha,List.foldl_append]
  rfl
 ·rintro δ ⟨x,rfl⟩
  rw [List.length_map,List.take_length]
  walk_at "rd"
  have g:=mO hz
  refine⟨by rw [List.length_map];omega,fun d=>match d with | .int a=>some (.int (a.fdiv (gW ws))) | _=>none,fun x hx=>?_,?_⟩
  ·obtain ⟨a,_,rfl⟩:=List.mem_map.mp hx
   walk_at "rd"
   exact⟨⟨by show gW ws≠0;omega,o7 (vy hz hb) (Nat.le_refl _)⟩,rfl⟩
  ·rw [bO _ D.int (fun a=>D.int (a.fdiv (gW ws))) _ fun k _=>rfl]
   unfold shW at q
   rw [List.map_map] at q
   exact q
theorem mI {nm:List Str} {rows:List Rw} {w:List Int}:smD nm rows w=.tup [rwD (smR nm rows w),.tup (w.map D.int)]:=rfl
theorem f8 {nm:List Str} {rows:List Rw} (H:Rws nm rows) (w:List Int):((smR nm rows w).2.1.map (·.1)).Nodup:=(H.smT w).nd
theorem tw {l h:List Int}:zipD (l.map D.int) (h.map D.int)=(l.zip h).map fun p=>D.tup [.int p.1,.int p.2]:=by
 unfold zipD
 rw [List.zipWith_map,List.zip,List.map_zipWith]
inductive gy (ds:List D) (R:D→Prop):Prop
 | mk (nm:List Str) (rows:List Rw) (n:Str) (l h:List Int) (hh:ds=[smD nm rows l,smD nm rows h,.str n]∧Rws nm rows∧rows.length≤60∧Wt rows.length l∧Wt rows.length h∧0 < cfs (rows.zip l) n∧cfs (rows.zip h) n < 0 ∧
 ib (cfs (rows.zip l) n)≤8000∧ib (cfs (rows.zip h) n)≤8000∧(∀ a∈l,ib a≤8000)∧(∀ a∈h,ib a≤8000)∧(∀ a∈crS rows n l h,ib a≤8000)∧R (.tup ((crW rows n l h).map D.int)))
theorem jK:∀ ds R,gy ds R→ds.length=3:=fun _ _ ⟨_,_,_,_,_,e,_⟩=>by rw [e];rfl
theorem fK:ax ["low","high","name","low_times","high_times"] ["low","high","name"] (ak s_crossed):=⟨rfl,rfl,rfl,by decide +kernel,rfl,by decide +kernel,by decide +kernel⟩
theorem lr (F:Fd K mg "crossed" s_crossed ["low","high","name"]) (aL:Cal P w K mg base 1 "weight_of" ["name","row"] (spD K (bZ))) (eT:Cal P w K mg base 2 "shortened" ["weights"] (spD K (eL))) (et:mg "zip"=none):Cal P w K mg base 3 "crossed" ["low","high","name"] (spD K gy):=by
 refine fn_D F fK jK fun fa cdv A outer s H E ds R hr h=>?_
 have hU:=hr.units
 refine⟨_,(ad (aB 3 fK.nd (xx xf (av aL (rm hr) rfl (ac (de_v 2) (ac (aw au (de_v 1) ae (fun _ _=>rfl)) ag))))) (ad (aB 4 fK.nd (av aL (rm hr) rfl (ac (de_v 2) (ac (aw au (de_v 0) ae (fun _ _=>rfl)) ag)))) (af (ay (av eT (rm hr) rfl (ac (dk ["one","other"] [(3,"low_times"),(4,"high_times")] rfl rfl (by decide +kernel) rfl (by decide +kernel) (cB ⟨rfl,rfl,trivial⟩) (cF rfl) (bG ⟨⟨rfl,rfl,.inl rfl⟩,⟨rfl,rfl,.inl rfl⟩,trivial⟩) (kG false false rfl et (ac (aw au (de_v 0) ae (fun _ _=>rfl)) (ac (aw au (de_v 1) ae (fun _ _=>rfl)) ag))) fun _ _ _ _ _=>⟨(b7 (n:=2) rfl (aF (am 0 (show List.Nodup (["one","other","low_times","high_times"]:List Str) by decide +kernel)) (aF (am 1 (show List.Nodup (["one","other","low_times","high_times"]:List Str) by decide +kernel)) bn))),kR,(aC bC (aC bB (de_v 0) (de_v 2)) (aC bB (de_v 1) (de_v 3)))⟩) ag)))))),?_⟩
 obtain ⟨nm,rows,n,l,h,rfl,H,hm,wl,wh,cl,ch,b1,b2,b3,b4,b5,q⟩:=h
 simp only [mI]
 walk_at "rd"
 refine⟨n,smR nm rows h,rfl,f8 H h,?_⟩
 walk_at "rd"
 refine⟨n,smR nm rows l,rfl,f8 H l,?_⟩
 walk_at "rd"
 rw [dz H,dz H,tw]
 have ll:=wl.len
 have lh:=wh.len
 refine⟨by rw [List.length_map,List.length_zip];omega,fun d=>match d with | .tup [.int a,.int b]=>some (.int (a * -(cfs (rows.zip h) n) + b * cfs (rows.zip l) n)) | _=>none,fun x hx=>?_,?_⟩
 ·obtain ⟨⟨a,b⟩,hp,rfl⟩:=List.mem_map.mp hx
  walk_at "rd"
  exact⟨mo2 (b3 a (List.of_mem_zip hp).1) (intBits_neg_le b2),mo2 (b4 b (List.of_mem_zip hp).2) b1⟩
 ·obtain ⟨_,nz⟩:=iN wl wh cl ch
  refine⟨crS rows n l h,?_,by rw [l5 ll lh];omega,nz,b5,q⟩
  rw [bO _ (fun p:Int×Int=>D.tup [.int p.1,.int p.2]) (fun p=>D.int (p.1 * -(cfs (rows.zip h) n) + p.2 * cfs (rows.zip l) n)) _ fun k _=>rfl]
  unfold crS
  rw [List.map_zipWith,show l.zip h=List.zipWith Prod.mk l h from rfl,List.map_zipWith]
def rX:D→List Int
 | .tup [_,.tup xs]=>xs.map fun x=>match x with | .int a=>a | _=>0
 | _=>[]
theorem m7 {nm:List Str} {rows:List Rw} {w:List Int}:rX (smD nm rows w)=w:=by
 show (w.map D.int).map _=w
 rw [List.map_map]
 exact List.map_id _
theorem d3 {nm:List Str} {rows:List Rw} (p:List Int→Bool):∀ W:List (List Int),(W.map (smD nm rows)).filterMap (fun d=>if p (rX d)=true then some d else none)=(W.filter p).map (smD nm rows)
 | []=>rfl
 | w :: W=>by
  rw [List.map_cons,List.filterMap_cons,m7]
  by_cases h:p w=true
  ·rw [if_pos h,List.filter_cons_of_pos h,d3 p W];rfl
  ·rw [if_neg h,List.filter_cons_of_neg h,d3 p W]
theorem m3 {nm:List Str} {rows:List Rw} {W:List (List Int)} {i:Nat} {d:D} (h:(W.map (smD nm rows))[i]?=some d):∃ w,W[i]?=some w∧d=smD nm rows w:=by
 rw [List.getElem?_map] at h
 cases e:W[i]? with
 | none=>rw [e] at h;cases h
 | some n=>rw [e] at h;exact⟨n,rfl,(Option.some.inj h).symm⟩
theorem xF (u:List Int):((u.map D.int).filterMap (fun d=>match d with | .int a=>if 0 < a then some (D.int a) else none | _=>none)).length=usd u:=by
 unfold usd
 induction u with
 | nil=>rfl
 | cons a u ih =>
  rw [List.map_cons,List.filterMap_cons]
  simp only
  by_cases h:0 < a
  ·rw [if_pos h,List.filter_cons_of_pos (by simpa using h),List.length_cons,List.length_cons,ih]
  ·rw [if_neg h,List.filter_cons_of_neg (by simpa using h),ih]
structure Sums (nm:List Str) (rows:List Rw) (B k:Nat) (W:List (List Int)):Prop where
 H:Rws nm rows
 hB:RwB B rows
 m6:rows.length≤60
 n6:nm.length≤60
 wt:∀ w∈W,Wt rows.length w
 bits:∀ w∈W,∀ a∈w,ib a≤wb B rows.length k
 fit:cb B rows.length k≤8000∧wb B rows.length (k + 1)≤8000
theorem Sums.w8 {nm:List Str} {rows:List Rw} {B k:Nat} {W:List (List Int)} (S:Sums nm rows B k W) {w:List Int} (hw:w∈W):∀ a∈w,ib a≤8000:=fun a ha=>by
 have:=S.bits w hw a ha
 have:=S.fit.1
 unfold cb at this
 omega
theorem Sums.c8 {nm:List Str} {rows:List Rw} {B k:Nat} {W:List (List Int)} (S:Sums nm rows B k W) {w:List Int} (hw:w∈W) (n:Str):ib (cfs (rows.zip w) n)≤8000:=Nat.le_trans (S.H.cfb S.hB (S.bits w hw) n) S.fit.1
theorem Sums.rw {nm:List Str} {rows:List Rw} {B k:Nat} {W:List (List Int)} (S:Sums nm rows B k W):∀ r∈rows,RwOk nm 60000000 r:=fun r hr=>by
 have h8:B≤8000:=by have:=S.fit.1;unfold cb at this;omega
 exact⟨S.H.sub r hr,fun t ht=>Nat.le_trans (S.hB.tm r hr t ht) (by omega),Nat.le_trans (S.hB.bd r hr) (by omega)⟩
inductive gN (ds:List D) (R:D→Prop):Prop
 | mk (nm:List Str) (rows:List Rw) (n:Str) (W:List (List Int)) (most B k c:Nat) (hh:ds=[.lst (rows.map rwD),.lst (W.map (smD nm rows)),.str n,.int (most:Nat)]∧Sums nm rows B k W∧W.length≤c∧4≤c∧c * c / 4 < 9000∧R (.lst ((woW rows n most W).map (smD nm rows))))
theorem jn:∀ ds R,gN ds R→ds.length=4:=fun _ _ ⟨_,_,_,_,_,_,_,_,e,_⟩=>by rw [e];rfl
theorem bW:ax ["rows","sums","name","most","told","lows","highs","low","high","weights"] ["rows","sums","name","most"] (ak s_without):=⟨rfl,rfl,rfl,by decide +kernel,rfl,by decide +kernel,by decide +kernel⟩
theorem kT (F:Fd K mg "without" s_without ["rows","sums","name","most"]) (aL:Cal P w K mg base 1 "weight_of" ["name","row"] (spD K (bZ))) (gA:Cal P w K mg base 3 "crossed" ["low","high","name"] (spD K (gy))) (lJ:Cal P w K mg base 1 "added" ["rows","weights"] (spD K (lM))) (bx:mg "len"=none):Cal P w K mg base 4 "without" ["rows","sums","name","most"] (spD K gN):=by
 refine fn_D F bW jn fun fa cdv A outer s H E ds R hr h=>?_
 have hU:=hr.units
 refine⟨_,(ad (tJ 4 bW.nd ["held"] [(2,"name")] rfl rfl (by decide +kernel) rfl (by decide +kernel) (cB ⟨rfl,trivial⟩) (cF rfl) (bG ⟨⟨rfl,rfl,.inl rfl⟩,trivial⟩) (fY (de_v 1)) fun _ _ _ _ _=>⟨(am 0 (show List.Nodup (["held","name"]:List Str) by decide +kernel)),(ft (aI (o_eq hU) (av aL (rm hr) rfl (ac (de_v 1) (ac (aw au (de_v 0) ae (fun _ _=>rfl)) ag))) ae (ar _))),(de_v 0)⟩) (ad (gl 5 bW.nd ["held"] [(2,"name")] rfl rfl (by decide +kernel) rfl (by decide +kernel) (cB ⟨rfl,trivial⟩) (cF rfl) (bG ⟨⟨rfl,rfl,.inl rfl⟩,trivial⟩) (fY (de_v 1)) fun _ _ _ _ _=>⟨(am 0 (show List.Nodup (["held","name"]:List Str) by decide +kernel)),(ft (aI o_gt (av aL (rm hr) rfl (ac (de_v 1) (ac (aw au (de_v 0) ae (fun _ _=>rfl)) ag))) ae (ar _))),(de_v 0)⟩) (ad (gl 6 bW.nd ["held"] [(2,"name")] rfl rfl (by decide +kernel) rfl (by decide +kernel) (cB ⟨rfl,trivial⟩) (cF rfl) (bG ⟨⟨rfl,rfl,.inl rfl⟩,trivial⟩) (fY (de_v 1)) fun _ _ _ _ _=>⟨(am 0 (show List.Nodup (["held","name"]:List Str) by decide +kernel)),(ft (aI o_lt (av aL (rm hr) rfl (ac (de_v 1) (ac (aw au (de_v 0) ae (fun _ _=>rfl)) ag))) ae (ar _))),(de_v 0)⟩) (ad (cU PassesOwn.never rfl (de_v 5) (am 7 bW.nd) (af (cU PassesOwn.never rfl (de_v 6) (am 8 bW.nd) (ad (aB 9 bW.nd (av gA (rm hr) rfl (ac (de_v 7) (ac (de_v 8) (ac (de_v 2) ag))))) (af (a7 (aI o_le (aM iJ rfl bx fB (ac (dk ["often"] [] rfl rfl (by decide +kernel) rfl (by decide +kernel) (cB trivial) (cF rfl) (bG trivial) (uO (de_v 9)) fun _ _ _ _ _=>⟨(am 0 (show List.Nodup (["often"]:List Str) by decide +kernel)),(ft (aI o_gt (de_v 0) ae (ar _))),(de_v 0)⟩) ag)) (de_v 3) (ar _)) (af (cw 4 (bN (ac (av lJ (rm hr) rfl (ac (de_v 0) (ac (de_v 9) ag))) (ac (de_v 9) ag))))) aH)))))) (af (kW 4)))))),?_⟩
 obtain ⟨nm,rows,n,W,most,B,k,c,rfl,S,hc,h4,hc9,q⟩:=h
 have c9:c < 9000:=by
  have:c≤c * c / 4:=(Nat.le_div_iff_mul_le (by decide)).mpr (Nat.mul_le_mul_left c h4)
  omega
 have sf0:=d3 (nm:=nm) (rows:=rows) (fun w=>decide (cfs (rows.zip w) n=0)) W
 have sf1:=d3 (nm:=nm) (rows:=rows) (fun w=>decide (0 < cfs (rows.zip w) n)) W
 have sf2:=d3 (nm:=nm) (rows:=rows) (fun w=>decide (cfs (rows.zip w) n < 0)) W
 refine ap fun K1 hK1=>?_
 walk_at "rd"
 refine⟨by rw [List.length_map];omega,fun d=>if decide (cfs (rows.zip (rX d)) n=0)=true then some d else none,fun x hx=>?_,?_⟩
 ·obtain ⟨w,hw,rfl⟩:=List.mem_map.mp hx
  simp only [m7]
  simp only [mI]
  walk_at "rd"
  refine⟨n,smR nm rows w,rfl,f8 S.H w,?_⟩
  rw [dz S.H]
  walk_at "rd"
  refine ite2 (fun e=>?_) fun e=>?_
  ·rw [if_pos e]
  ·rw [if_neg e]
 ·rw [sf0]
  intro ta
  rw [hK1]
  refine ap fun K2 hK2=>?_
  walk_at "rd"
  refine⟨by rw [List.length_map];omega,fun d=>if decide (0 < cfs (rows.zip (rX d)) n)=true then some d else none,fun x hx=>?_,?_⟩
  ·obtain ⟨w,hw,rfl⟩:=List.mem_map.mp hx
   simp only [m7]
   simp only [mI]
   walk_at "rd"
   refine⟨n,smR nm rows w,rfl,f8 S.H w,?_⟩
   rw [dz S.H]
   walk_at "rd"
   refine ite2 (fun e=>?_) fun e=>?_
   ·rw [if_pos e]
   ·rw [if_neg e]
  ·rw [sf1,hK2]
   refine ap fun K3 hK3=>?_
   walk_at "rd"
   refine⟨by rw [List.length_map];omega,fun d=>if decide (cfs (rows.zip (rX d)) n < 0)=true then some d else none,fun x hx=>?_,?_⟩
   ·obtain ⟨w,hw,rfl⟩:=List.mem_map.mp hx
    simp only [m7]
    simp only [mI]
    walk_at "rd"
    refine⟨n,smR nm rows w,rfl,f8 S.H w,?_⟩
    rw [dz S.H]
    walk_at "rd"
    refine ite2 (fun e=>?_) fun e=>?_
    ·rw [if_pos e]
    ·rw [if_neg e]
   ·rw [sf2,hK3]
    clear sf0 sf1 sf2
    have c3:=cnt3 (rows:=rows) (n:=n) W
    unfold woW at q
    have hL:∀ l∈W.filter (fun w=>decide (0 < cfs (rows.zip w) n)),l∈W∧0 < cfs (rows.zip l) n:=fun l hl=>⟨(List.mem_filter.mp hl).1,by simpa using (List.mem_filter.mp hl).2⟩
    have hR:∀ l∈W.filter (fun w=>decide (cfs (rows.zip w) n < 0)),l∈W∧cfs (rows.zip l) n < 0:=fun l hl=>⟨(List.mem_filter.mp hl).1,by simpa using (List.mem_filter.mp hl).2⟩
    generalize W.filter (fun w=>decide (cfs (rows.zip w) n=0))=Z at *
    generalize W.filter (fun w=>decide (0 < cfs (rows.zip w) n))=Ls at *
    generalize W.filter (fun w=>decide (cfs (rows.zip w) n < 0))=Rs at *
    have zb:Z.length + Ls.length * Rs.length < 9000:=Nat.lt_of_le_of_lt (zab (by omega) h4) hc9
    refine ap fun K4 hK4=>?_
    refine dg fun F N hF hN=>?_
    simp only [f6]
    walk_at "rd"
    refine⟨fun i δ=>∃ x y z,δ=[.dat (.lst (rows.map rwD)),.dat (.lst (W.map (smD nm rows))),.dat (.str n),.dat (.int (most:Nat)),.own ta (.lst ((Z++(Ls.take i).flatMap fun l=>(Rs.map (crW rows n l)).filter fun u=>decide (usd u≤most)).map (smD nm rows))),.dat (.lst (Ls.map (smD nm rows))),.dat (.lst (Rs.map (smD nm rows))),x,y,z],⟨_,_,_,by rw [List.take_zero,List.flatMap_nil,List.append_nil]⟩,?_,?_⟩
    ·rintro i d δ hd ⟨x,y,z,rfl⟩
     obtain ⟨l,hl,rfl⟩:=m3 hd
     obtain ⟨lW,cl⟩:=hL l (List.mem_of_getElem? hl)
     have hil:i < Ls.length:=(List.getElem?_eq_some_iff.mp hl).1
     rw [hF]
     walk_at "rd"
     refine dg fun F2 N2 hF2 hN2=>?_
     simp only [f6]
     walk_at "rd"
     refine⟨fun j δ=>∃ y z,δ=[.dat (.lst (rows.map rwD)),.dat (.lst (W.map (smD nm rows))),.dat (.str n),.dat (.int (most:Nat)),.own ta (.lst ((Z++(Ls.take i).flatMap (fun l=>(Rs.map (crW rows n l)).filter fun u=>decide (usd u≤most))++((Rs.take j).map (crW rows n l)).filter fun u=>decide (usd u≤most)).map (smD nm rows))),.dat (.lst (Ls.map (smD nm rows))),.dat (.lst (Rs.map (smD nm rows))),.dat (smD nm rows l),y,z],⟨_,_,by rw [List.take_zero,List.map_nil,List.filter_nil,List.append_nil]⟩,?_,?_⟩
     ·rintro j d δ hd ⟨y,z,rfl⟩
      obtain ⟨h,hh,rfl⟩:=m3 hd
      obtain ⟨hW,ch⟩:=hR h (List.mem_of_getElem? hh)
      have hjl:j < Rs.length:=(List.getElem?_eq_some_iff.mp hh).1
      rw [hF2]
      show iT _ _ _ _
      refine cK fun K5 hK5=>?_
      walk_at "rd"
      refine⟨nm,rows,n,l,h,rfl,S.H,S.m6,S.wt l lW,S.wt h hW,cl,ch,S.c8 lW n,S.c8 hW n,S.w8 lW,S.w8 hW,fun a ha=>Nat.le_trans (jC S.H S.hB (S.bits l lW) (S.bits h hW) a ha) S.fit.2,?_⟩
      walk_at "rd"
      rw [hK5]
      have ww:=qg (S.wt l lW) (S.wt h hW) cl ch
      have wbt:∀ a∈crW rows n l h,ib a≤60000000:=fun a ha=>by
       obtain ⟨b,hb',rfl⟩:=List.mem_map.mp ha
       exact intBits_fdiv_le (Nat.le_trans (jC S.H S.hB (S.bits l lW) (S.bits h hW) b hb') (Nat.le_trans S.fit.2 (by decide)))
      have tk:(((Rs.take (j + 1)).map (crW rows n l)).filter fun u=>decide (usd u≤most))=(((Rs.take j).map (crW rows n l)).filter fun u=>decide (usd u≤most))++if usd (crW rows n l h)≤most then [crW rows n l h] else []:=by
       rw [aG hh,List.map_append,List.filter_append]
       congr 1
       by_cases e:usd (crW rows n l h)≤most
       ·rw [if_pos e];simp [e]
       ·rw [if_neg e];simp [e]
      simp only [tk]
      generalize crW rows n l h=u at *
      walk_at "rd"
      refine⟨by rw [List.length_map,ww.len];have:=S.m6;omega,fun d=>match d with | .int a=>if 0 < a then some (.int a) else none | _=>none,fun x hx=>?_,?_⟩
      ·obtain ⟨a,_,rfl⟩:=List.mem_map.mp hx
       walk_at "rd"
       refine ite2 (fun e=>?_) fun e=>?_
       ·rw [if_pos e]
       ·rw [if_neg e]
      ·rw [xF]
       refine ite2 (fun e=>?_) fun e=>?_
       ·have e:usd u≤most:=by omega
        rw [if_pos e]
        refine⟨rows,u,nm,rfl,S.n6,S.rw,wbt,fun ts hts=>?_⟩
        have:=hts.uniq (S.H.smT u)
        subst this
        walk_at "rd"
        refine⟨?_,?_⟩
        ·rw [List.length_map,List.length_append,List.length_append]
         have f1:=i8 (rows:=rows) (n:=n) (most:=most) Rs (Ls.take i)
         have f2:=List.length_filter_le (fun u=>decide (usd u≤most)) ((Rs.take j).map (crW rows n l))
         rw [List.length_map,List.length_take] at f2
         rw [List.length_take,show min i Ls.length=i by omega] at f1
         have f3:=Nat.mul_le_mul_right Rs.length (show i + 1≤Ls.length from hil)
         rw [Nat.succ_mul] at f3
         omega
        ·rw [← List.append_assoc,List.map_append (l₂:=[u])]
         rfl
       ·have e:¬ usd u≤most:=by omega
        rw [if_neg e,List.append_nil]
     ·rintro δ ⟨y,z,rfl⟩
      rw [List.length_map,List.take_length,hN2]
      walk_at "rd"
      rw [aG hl,List.flatMap_append,← List.append_assoc]
      simp only [List.flatMap_cons,List.flatMap_nil,List.append_nil]
      try exact⟨_,_,_,rfl⟩
    ·rintro δ ⟨x,y,z,rfl⟩
     rw [List.length_map,List.take_length,hN,hK4]
     walk_at "rd"
     exact q
def tows (rows:List Rw):List Str→List (List (List Int))
 | []=>[stW rows []]
 | n :: ns=>stW rows (n :: ns) :: tows rows ns
def stpD (nm:List Str) (rows:List Rw) (W:List (List Int)):D:=.lst (W.map (smD nm rows))
theorem fi {rows:List Rw}:∀ ns:List Str,(tows rows ns).length=ns.length + 1
 | []=>rfl
 | n :: ns=>by show (tows rows ns).length + 1=_;rw [fi ns];rfl
theorem mZ {rows:List Rw}:∀ (ns:List Str) (j:Nat),j≤ns.length→(tows rows ns)[j]?=some (stW rows (ns.drop j))
 | [],0,_=>rfl
 | n :: ns,0,_=>rfl
 | n :: ns,j + 1,h=>mZ ns j (by simpa using h)
theorem uC {B B' m m':Nat} (h1:B≤B') (h2:m≤m'):∀ k,wb B m k≤wb B' m' k
 | 0=>Nat.le_refl 1
 | k + 1=>by have:=uC h1 h2 k;show 2 * wb B m k + B + m + 1≤2 * wb B' m' k + B' + m' + 1;omega
theorem v4 {B m a:Nat}:∀ {b:Nat},a≤b→wb B m a≤wb B m b
 | 0,h=>by rw [Nat.le_zero.mp h];exact Nat.le_refl _
 | b + 1,h=>by
  by_cases e:a=b + 1
  ·rw [e];exact Nat.le_refl _
  ·exact Nat.le_trans (v4 (b:=b) (by omega)) qI
structure Fit (nm:List Str) (rows:List Rw) (B N:Nat):Prop where
 H:Rws nm rows
 hB:RwB B rows
 m6:rows.length≤6
 n6:nm.length≤60
 n4:N≤4
 wN:wb B 6 (N + 1)≤7990
theorem Fit.wk {nm:List Str} {rows:List Rw} {B N k:Nat} (F:Fit nm rows B N) (h:k≤N + 1):wb B rows.length k≤7990:=Nat.le_trans (uC (Nat.le_refl B) F.m6 k) (Nat.le_trans (v4 h) F.wN)
theorem Fit.ck {nm:List Str} {rows:List Rw} {B N k:Nat} (F:Fit nm rows B N) (h:k≤N):cb B rows.length k≤7990:=by
 have:2 * wb B rows.length k + B + rows.length + 1≤7990:=F.wk (k:=k + 1) (by omega)
 unfold cb;omega
theorem A5 {B m:Nat} (h2:m≤6) (k:Nat):cb B m k≤cb B 6 k:=by have:=uC (Nat.le_refl B) h2 k;unfold cb;omega
theorem Fit.sums {nm:List Str} {rows:List Rw} {B N:Nat} (F:Fit nm rows B N) {ns:List Str} (h:ns.length≤N):Sums nm rows B ns.length (stW rows ns):=by
 have w1:=F.ck h
 have w2:=F.wk (k:=ns.length + 1) (by omega)
 have:=F.m6
 exact⟨F.H,F.hB,by omega,F.n6,fun w hw=>(ci hw).1,fun w hw=>cO F.H F.hB hw,by omega,by omega⟩
inductive eA (ds:List D) (R:D→Prop):Prop
 | mk (nm:List Str) (rows:List Rw) (B N:Nat) (ns:List Str) (hh:ds=[.lst (rows.map rwD),.lst (ns.map D.str)]∧Fit nm rows B N∧ns.length≤N∧R (.lst ((tows rows ns).map (stpD nm rows))))
theorem il:∀ ds R,eA ds R→ds.length=2:=fun _ _ ⟨_,_,_,_,_,e,_⟩=>by rw [e];rfl
theorem cnt6:∀ {k:Nat},k≤3→cnt 6 k * cnt 6 k / 4 < 9000
 | 0,_=>by decide
 | 1,_=>by decide
 | 2,_=>by decide
 | 3,_=>by decide
 | k + 4,h=>by omega
theorem vW {ns:List Str} {i:Nat} {d:D} (h:(ns.map D.str).reverse[i]?=some d):∃ n,d=.str n∧i < ns.length∧ns.drop (ns.length - (i + 1))=n :: ns.drop (ns.length - i):=by
 have hi:i < ns.length:=by
  have:=(List.getElem?_eq_some_iff.mp h).1
  simpa using this
 rw [List.getElem?_reverse (by simpa using hi),List.length_map,List.getElem?_map] at h
 have e:ns.length - (i + 1) < ns.length:=by omega
 have e1:ns.length - 1 - i=ns.length - (i + 1):=by omega
 rw [e1,List.getElem?_eq_getElem e] at h
 refine⟨ns[ns.length - (i + 1)],(Option.some.inj h).symm,hi,?_⟩
 rw [List.drop_eq_getElem_cons e]
 congr 2
 omega
theorem b9:ax ["rows","names","sums","told","name"] ["rows","names"] (ak s_taken_out):=⟨rfl,rfl,rfl,by decide +kernel,rfl,by decide +kernel,by decide +kernel⟩
theorem jy (F:Fd K mg "taken_out" s_taken_out ["rows","names"]) (lE:Cal P w K mg base 1 "alone" ["rows"] (spD K (lB))) (gR:Cal P w K mg base 4 "without" ["rows","sums","name","most"] (spD K (gN))) (fG:mg "reversed"=none) (bx:mg "len"=none):Cal P w K mg base 5 "taken_out" ["rows","names"] (spD K eA):=by
 refine fn_D F b9 il fun fa cdv A outer s H E ds R hr h=>?_
 have hU:=hr.units
 refine⟨_,(ad (aB 2 b9.nd (av lE (rm hr) rfl (ac (de_v 0) ag))) (ad (ip 3 b9.nd (ac (de_v 2) ag)) (ad (fZ PassesOwn.never rfl (yp rfl fG (ac (de_v 1) ag)) (am 4 b9.nd) (ad (aB 2 b9.nd (av gR (rm hr) rfl (ac (de_v 0) (ac (de_v 2) (ac (de_v 4) (ac (aC bC (jw 3 rfl bx fB) ae) ag)))))) (af (tW 3 (de_v 2))))) (af (kW 3))))),?_⟩
 obtain ⟨nm,rows,B,N0,ns,rfl,F,h4,q⟩:=h
 have n4:=F.n4
 walk_at "rd"
 refine⟨rows,nm,rfl,F.H,by have:=F.m6;omega,?_⟩
 walk_at "rd"
 intro ta
 refine dX fun Fb N hF hN=>?_
 simp only [jH]
 walk_at "rd"
 refine⟨fun i δ=>∃ x,δ=[.dat (.lst (rows.map rwD)),.dat (.lst (ns.map D.str)),.dat (stpD nm rows (stW rows (ns.drop (ns.length - i)))),.own ta (.lst ((tows rows (ns.drop (ns.length - i))).map (stpD nm rows))),x],⟨_,by rw [Nat.sub_zero,List.drop_length];rfl⟩,?_,?_⟩
 ·rintro i d δ hd ⟨x,rfl⟩
  obtain ⟨n,rfl,hi,hdr⟩:=vW hd
  simp only [hdr]
  have hl:(ns.drop (ns.length - i)).length=i:=by rw [List.length_drop];omega
  generalize ns.drop (ns.length - i)=l at *
  rw [hF]
  show iT _ _ _ _
  refine cK fun K1 hK1=>?_
  walk_at "rd"
  obtain ⟨c1,c2⟩:=qQ (rows:=rows) F.m6 (by decide) l
  rw [hl] at c1 c2
  refine⟨nm,rows,n,stW rows l,l.length + 2,B,l.length,cnt 6 i,?_,F.sums (by omega),c1,c2,cnt6 (by omega),?_⟩
  ·rw [List.length_map,fi]
   show [_,stpD nm rows (stW rows l),_,_]=_
   unfold stpD
   congr 4
  ·walk_at "rd"
   rw [hK1]
   walk_at "rd"
   refine⟨by rw [List.length_map,fi];omega,rfl,rfl⟩
 ·rintro δ ⟨x,rfl⟩
  rw [List.length_reverse,List.length_map,Nat.sub_self,hN]
  walk_at "rd"
  exact q
inductive d6 (ds:List D) (R:D→Prop):Prop
 | mk (n:Str) (r:Rw) (ks:List Str) (ps:List (Int×Int)) (c κ T:Nat) (hh:ds=[.str n,rwD r,.dct ks (ps.map frD)]∧(r.2.1.map (·.1)).Nodup∧ks.length≤60∧(∀ t∈r.2.1,t.1≠n→t.1∈ks)∧cf r.2.1 n≠0∧Pt ks ps T∧T≤1000000∧ib (bot (pB ks ps) ks)≤κ∧c + κ≤7990 ∧
 ib (cf r.2.1 n)≤c∧(∀ t∈r.2.1,ib t.2≤c)∧ib r.2.2≤c∧R (frD (bnd ks ps n r)))
theorem iE:∀ ds R,d6 ds R→ds.length=3:=fun _ _ ⟨_,_,_,_,_,_,_,e,_⟩=>by rw [e];rfl
theorem gL (p:Str×Int→Bool) (g:D→Option D) (h1:∀ t,p t=true→g (tmD t)=some (tmD t)) (h2:∀ t,p t=false→g (tmD t)=none):∀ ts:List (Str×Int),(ts.map tmD).filterMap g=(ts.filter p).map tmD
 | []=>rfl
 | t :: ts=>by
  rw [List.map_cons,List.filterMap_cons]
  cases e:p t with
  | true=>rw [h1 t e,List.filter_cons_of_pos e,gL p g h1 h2 ts];rfl
  | false=>rw [h2 t e,List.filter_cons_of_neg (by rw [e];decide),gL p g h1 h2 ts]
theorem eM:ax ["name","row","point","others","known"] ["name","row","point"] (ak s_bound_on):=⟨rfl,rfl,rfl,by decide +kernel,rfl,by decide +kernel,by decide +kernel⟩
theorem jU (F:Fd K mg "bound_on" s_bound_on ["name","row","point"]) (cX:Cal P w K mg base 1 "tops_of" ["names","point"] (spD K (fb))) (cY:Cal P w K mg base 2 "made" ["top","bottom"] (spD K (iO))) (aL:Cal P w K mg base 1 "weight_of" ["name","row"] (spD K (bZ))) (bL:Cal P w K mg base 1 "top_of_sum" ["terms","tops"] (spD K (cM))):Cal P w K mg base 3 "bound_on" ["name","row","point"] (spD K d6):=by
 refine fn_D F eM iE fun fa cdv A outer s H E ds R hr h=>?_
 have hU:=hr.units
 refine⟨_,(ad (gl 3 eM.nd ["term"] [(0,"name")] rfl rfl (by decide +kernel) rfl (by decide +kernel) (cB ⟨rfl,trivial⟩) (cF rfl) (bG ⟨⟨rfl,rfl,.inl rfl⟩,trivial⟩) (uO (aw au (de_v 1) ae (fun _ _=>rfl))) fun _ _ _ _ _=>⟨(am 0 (show List.Nodup (["term","name"]:List Str) by decide +kernel)),(ft (aI (fQ hU) (aw au (de_v 0) ae (fun _ _=>rfl)) (de_v 1) (ar _))),(de_v 0)⟩) (ad (aB 4 eM.nd (av cX (rm hr) rfl (ac (dk ["term"] [] rfl rfl (by decide +kernel) rfl (by decide +kernel) (cB trivial) (cF rfl) (bG trivial) (fY (de_v 3)) fun _ _ _ _ _=>⟨(am 0 (show List.Nodup (["term"]:List Str) by decide +kernel)),kR,(aw au (de_v 0) ae (fun _ _=>rfl))⟩) (ac (de_v 2) ag)))) (af (ay (av cY (rm hr) rfl (ac (aC ku (aC bB (aw au (de_v 1) ae (fun _ _=>rfl)) (aw au (de_v 4) ae (fun _ _=>rfl))) (av bL (rm hr) rfl (ac (de_v 3) (ac (aw au (de_v 4) ae (fun _ _=>rfl)) ag)))) (ac (aC bB (av aL (rm hr) rfl (ac (de_v 0) (ac (de_v 1) ag))) (aw au (de_v 4) ae (fun _ _=>rfl))) ag))))))),?_⟩
 obtain ⟨n,⟨k,ts,b⟩,ks,ps,c,κ,T,rfl,nd,hk,hp,hc,P,hT,hκ,hcκ,b1,b2,b3,q⟩:=h
 simp only at nd hp hc b1 b2 b3 q
 have lt:ts.length≤61:=by
  have h1:(ts.map (·.1)).length≤(n :: ks).length:=dD nd fun x hx=>by
   obtain ⟨t,ht,rfl⟩:=List.mem_map.mp hx
   by_cases e:t.1=n
   ·exact List.mem_cons.mpr (.inl e)
   ·exact List.mem_cons_of_mem _ (hp t ht e)
  rw [List.length_map,List.length_cons] at h1
  omega
 unfold rwD rowD
 refine ap fun K1 hK1=>?_
 walk_at "rd"
 refine⟨by rw [List.length_map];omega,fun d=>match d with | .tup [.str x,w]=>if x≠n then some (.tup [.str x,w]) else none | _=>none,fun x hx=>?_,?_⟩
 ·obtain ⟨t,_,rfl⟩:=List.mem_map.mp hx
  unfold tmD
  walk_at "rd"
  refine ite2 (fun e=>?_) fun e=>?_
  ·simp [e]
  ·simp [e]
 ·rw [gL (fun t=>decide (t.1≠n)) _ (fun t ht=>by unfold tmD;simp only;rw [if_pos (by simpa using ht)]) (fun t ht=>by unfold tmD;simp only;rw [if_neg (by simpa using ht)])]
  unfold bnd at q
  simp only at q
  have ho:∀ t∈ts.filter (fun t=>decide (t.1≠n)),t.1∈ks∧ib t.2≤c:=fun t ht=>by
   obtain ⟨h1,h2⟩:=List.mem_filter.mp ht
   exact⟨hp t h1 (by simpa using h2),b2 t h1⟩
  have ndo:((ts.filter (fun t=>decide (t.1≠n))).map (·.1)).Nodup:=nd.sublist (List.filter_sublist.map _)
  have hlo:=List.length_filter_le (fun t:Str×Int=>decide (t.1≠n)) ts
  generalize ts.filter (fun t=>decide (t.1≠n))=o at *
  have hon:∀ x∈o.map (·.1),x∈ks:=fun x hx=>by
   obtain ⟨t,ht,rfl⟩:=List.mem_map.mp hx
   exact (ho t ht).1
  have pos:∀ x∈ks,0 < pB ks ps x:=fun x hx=>P.pos hx
  have bK:=kC ndo hon pos hκ
  have pK:=cD (q:=pB ks ps) (l:=o.map (·.1)) fun x hx=>pos x (hon x hx)
  rw [hK1]
  walk_at "rd"
  refine⟨by rw [List.length_map];omega,fun d=>match d with | .tup (x :: _)=>some x | _=>none,fun x hx=>?_,?_⟩
  ·obtain ⟨t,_,rfl⟩:=List.mem_map.mp hx
   unfold tmD
   walk_at "rd"
  ·refine⟨o.map (·.1),ks,ps,T,κ,?_,ndo,?_,hon,P,hT,hκ,by omega,?_⟩
   ·rw [bO _ tmD (fun t=>D.str t.1) _ (by intro _ _;rfl),List.map_map];rfl
   ·have:=dD ndo hon
    omega
   ·walk_at "rd"
    refine⟨mo2 b3 bK (by omega),true,o,_,_,_,rfl,fun t ht=>⟨cv (fun x=>D.int (ov (pT ks ps) (pB ks ps) (bot (pB ks ps) (o.map (·.1))) x)) (List.mem_map.mpr ⟨t,ht,rfl⟩),Nat.le_trans (ho t ht).2 (by omega),Nat.le_trans (intBits_mul_le (P.Tb (ho t ht).1) (intBits_fdiv_le bK)) (by omega)⟩,?_⟩
    walk_at "rd"
    refine⟨n,(k,ts,b),rfl,nd,?_⟩
    walk_at "rd"
    refine⟨mo2 b1 bK (by omega),_,_,rfl,Int.mul_ne_zero hc (by omega),Nat.le_trans (intBits_mul_le b1 bK) (by omega),?_⟩
    exact q
def oD:Option (Int×Int)→D
 | none=>.non
 | some p=>frD p
def endD (e:En2):D:=.tup [oD e.1,.bl e.2]
inductive gJ (ds:List D) (R:D→Prop):Prop
 | mk (a b:En2) (lo:Bool) (hh:ds=[endD a,endD b,.bl lo]∧(∀ p,a.1=some p→ib p.1≤1000000∧ib p.2≤8000)∧(∀ p,b.1=some p→ib p.1≤1000000∧ib p.2≤8000)∧R (endD (tgt lo a b)))
theorem jl:∀ ds R,gJ ds R→ds.length=3:=fun _ _ ⟨_,_,_,e,_⟩=>by rw [e];rfl
theorem pk:ax ["one","other","is_low"] ["one","other","is_low"] (ak s_tighter):=⟨rfl,rfl,rfl,by decide +kernel,rfl,by decide +kernel,by decide +kernel⟩
theorem mv (F:Fd K mg "tighter" s_tighter ["one","other","is_low"]) (iP:Cal P w K mg base 1 "less" ["one","other"] (spD K (nK))):Cal P w K mg base 2 "tighter" ["one","other","is_low"] (spD K gJ):=by
 refine fn_D F pk jl fun fa cdv A outer s H E ds R hr h=>?_
 have hU:=hr.units
 refine⟨_,(ad (a7 (aI o_is (aw au (de_v 0) ae (fun _ _=>rfl)) iS (ar _)) (af (ay (de_v 1))) aH) (ad (a7 (aI o_is (aw au (de_v 1) ae (fun _ _=>rfl)) iS (ar _)) (af (ay (de_v 0))) aH) (ad (a7 (aI (xr hU) (aw au (de_v 0) ae (fun _ _=>rfl)) (aw au (de_v 1) ae (fun _ _=>rfl)) (ar _)) (af (ay (bN (ac (aw au (de_v 0) ae (fun _ _=>rfl)) (ac (io (aw au (de_v 0) ae (fun _ _=>rfl)) (dw (aw au (de_v 1) ae (fun _ _=>rfl)))) ag))))) aH) (af (ay (yr (aI (xr hU) (av iP (rm hr) rfl (ac (aw au (de_v 1) ae (fun _ _=>rfl)) (ac (aw au (de_v 0) ae (fun _ _=>rfl)) ag))) (de_v 2) (ar _)) (de_v 0) (de_v 1))))))),?_⟩
 obtain ⟨⟨a,ab⟩,⟨b,bb⟩,lo,rfl,ha,hb,q⟩:=h
 unfold endD at q ⊢
 cases a with
 | none =>
  unfold oD
  walk_at "rd"
  exact q
 | some p =>
  cases b with
  | none =>
   unfold oD frD
   walk_at "rd"
   exact q
  | some r =>
   obtain ⟨p1,p2⟩:=ha p rfl
   obtain ⟨r1,r2⟩:=hb r rfl
   unfold tgt at q
   simp only at q
   unfold oD frD
   walk_at "rd"
   refine ite2 (fun e=>?_) fun e=>?_
   ·have e:p=r:=Prod.ext (by simpa using congrArg Prod.fst e) (by simpa using congrArg Prod.snd e)
    rw [if_pos e] at q
    cases ab with
    | true=>exact ifp rfl q
    | false=>exact ifn Bool.false_ne_true q
   ·rw [if_neg (fun z=>e (by rw [z]))] at q
    refine⟨r,p,rfl,Nat.le_trans r1 (by decide),Nat.le_trans p1 (by decide),r2,p2,?_⟩
    walk_at "rd"
    refine ite2 (fun e=>?_) fun e=>?_
    ·rw [if_pos e] at q;exact q
    ·rw [if_neg e] at q;exact q
inductive eU (ds:List D) (R:D→Prop):Prop
 | mk (lo hi:Option (Int×Int)) (x y:Bool) (hh:ds=[.tup [oD lo,.bl x,oD hi,.bl y]]∧(∀ p,lo=some p→p.2≠0∧ib p.1≤1000000∧ib p.2≤3990)∧(∀ p,hi=some p→p.2≠0∧ib p.1≤1000000∧ib p.2≤3990)∧R (frD (nmb lo hi)))
theorem gE:∀ ds R,eU ds R→ds.length=1:=fun _ _ ⟨_,_,_,_,e,_⟩=>by rw [e];rfl
theorem cH:ax ["piece","low","high","whole"] ["piece"] (ak s_number_in):=⟨rfl,rfl,rfl,by decide +kernel,rfl,by decide +kernel,by decide +kernel⟩
theorem jj (F:Fd K mg "number_in" s_number_in ["piece"]) (cY:Cal P w K mg base 2 "made" ["top","bottom"] (spD K (iO))) (iP:Cal P w K mg base 1 "less" ["one","other"] (spD K (nK))) (lN:Cal P w K mg base 3 "times" ["one","other"] (spD K (ls))) (sF:Cal P w K mg base 3 "plus" ["one","other"] (spD K (qU))):Cal P w K mg base 4 "number_in" ["piece"] (spD K eU):=by
 refine fn_D F cH gE fun fa cdv A outer s H E ds R hr h=>?_
 have hU:=hr.units
 refine⟨_,(ad (aB 1 cH.nd (aw au (de_v 0) ae (fun _ _=>rfl))) (ad (aB 2 cH.nd (aw au (de_v 0) ae (fun _ _=>rfl))) (ad (a7 (DW.dt (kn (aI o_is (de_v 1) iS (ar _)) (jb (aI o_is (de_v 2) iS (ar _))))) (af (ay (bN (ac ae (ac ae ag))))) aH) (ad (a7 (aI o_is (de_v 1) iS (ar _)) (af (ay (av cY (rm hr) rfl (ac (aC ku (aC dU (aw au (de_v 2) ae (fun _ _=>rfl)) (aw au (de_v 2) ae (fun _ _=>rfl))) ae) (ac ae ag))))) aH) (ad (aB 3 cH.nd (av cY (rm hr) rfl (ac (aC bC (aC dU (aw au (de_v 1) ae (fun _ _=>rfl)) (aw au (de_v 1) ae (fun _ _=>rfl))) ae) (ac ae ag)))) (ad (a7 (DW.dt (i7 (aI o_is (de_v 2) iS (ar _)) (iY (cP (av iP (rm hr) rfl (ac (de_v 3) (ac (de_v 2) ag))))))) (af (ay (de_v 3))) aH) (ad (a7 (aI (xr hU) (de_v 1) (de_v 2) (ar _)) (af (ay (de_v 1))) aH) (af (ay (av lN (rm hr) rfl (ac (av sF (rm hr) rfl (ac (de_v 1) (ac (de_v 2) ag))) (ac (bN (ac ae (ac ae ag))) ag)))))))))))),?_⟩
 obtain ⟨lo,hi,x,y,rfl,hl,hh,q⟩:=h
 have m1:∀ a:Int,ib (mkB a 1)≤1:=fun a=>by rw [(mY a).2];decide
 cases lo with
 | none =>
  cases hi with
  | none =>
   unfold oD
   walk_at "rd"
   exact q
  | some h =>
   obtain ⟨h0,h1,h2⟩:=hh h rfl
   unfold oD frD
   walk_at "rd"
   exact⟨⟨h0,o7 h2 (by decide)⟩,_,_,rfl,by decide,by decide,q⟩
 | some l =>
  obtain ⟨l0,l1,l2⟩:=hl l rfl
  have bt:ib (mkT (l.1.fdiv l.2 + 1) 1)≤1000000 + 1:=by
   rw [(mY _).1]
   have:=intBits_add_le (intBits_fdiv_le (y:=l.2) l1) (show ib 1≤1 by decide)
   unfold ib
   omega
  cases hi with
  | none =>
   unfold oD frD
   walk_at "rd"
   exact⟨⟨l0,o7 l2 (by decide)⟩,_,_,rfl,by decide,by decide,q⟩
  | some h =>
   obtain ⟨h0,h1,h2⟩:=hh h rfl
   unfold nmb at q
   simp only at q
   unfold oD frD
   walk_at "rd"
   refine⟨⟨l0,o7 l2 (by decide)⟩,_,_,rfl,by decide,by decide,?_⟩
   walk_at "rd"
   refine⟨(mkT (l.1.fdiv l.2 + 1) 1,mkB (l.1.fdiv l.2 + 1) 1),h,rfl,Nat.le_trans bt (by decide),Nat.le_trans h1 (by decide),Nat.le_trans (m1 _) (by decide),Nat.le_trans h2 (by decide),?_⟩
   ·walk_at "rd"
    refine ite2 (fun e=>?_) fun e=>?_
    ·rw [if_pos e] at q;exact q
    ·rw [if_neg e] at q
     refine ite2 (fun e=>?_) fun e=>?_
     ·have e:l=h:=Prod.ext (by simpa using congrArg Prod.fst e) (by simpa using congrArg Prod.snd e)
      rw [if_pos e] at q;exact q
     ·rw [if_neg (fun z=>e (by rw [z]))] at q
      refine⟨l,h,rfl,Int.mul_ne_zero l0 h0,l1,h1,Nat.le_trans l2 (by decide),Nat.le_trans h2 (by decide),?_⟩
      have sb:=intBits_mul_le l2 h2
      have st:=intBits_add_le (intBits_mul_le l1 h2) (intBits_mul_le h1 l2)
      have sl:=el (l.1 * h.2 + h.1 * l.2) (Int.mul_ne_zero l0 h0)
      refine⟨(mkT (l.1 * h.2 + h.1 * l.2) (l.2 * h.2),mkB (l.1 * h.2 + h.1 * l.2) (l.2 * h.2)),(1,2),rfl,Int.mul_ne_zero sl.ne (by decide),Nat.le_trans (intBits_fdiv_le st) (by decide),by decide,Nat.le_trans (intBits_fdiv_le sb) (by decide),by decide,?_⟩
      exact q
theorem uk {l:List (Rw×Int)}:(decide (kdS (kOf (stc l))=("least":Str)):Bool)=!stc l:=by cases stc l<;>rfl
structure Pcs (nm:List Str) (rows:List Rw) (ks:List Str) (ps:List (Int×Int)) (n:Str) (W:List (List Int)) (c κ g T:Nat) (L:Int):Prop where
 H:Rws nm rows
 k6:ks.length≤60
 nms:∀ w∈W,∀ t∈(smR nm rows w).2.1,t.1≠n→t.1∈ks
 P:Pt ks ps T
 hT:c + T + κ + 80≤1000000
 hκ:ib (bot (pB ks ps) ks)≤κ
 L0:L≠0
 hL:∀ k∈ks,pB ks ps k ∣ L
 hg:ib L≤g
 gκ:g≤κ
 cg:c + g≤3990
 cκ:c + κ≤7990
 cb:∀ w∈W,∀ x,ib (cfs (rows.zip w) x)≤c
 bb:∀ w∈W,ib (bds (rows.zip w))≤c
theorem Pcs.tb {nm:List Str} {rows:List Rw} {ks:List Str} {ps:List (Int×Int)} {n:Str} {W:List (List Int)} {c κ g T:Nat} {L:Int} (h:Pcs nm rows ks ps n W c κ g T L) {w:List Int} (hw:w∈W):∀ t∈(smR nm rows w).2.1,ib t.2≤c:=fun t ht=>by
 rw [(jh ht).2.2];exact h.cb w hw _
theorem Pcs.cnd {nm:List Str} {rows:List Rw} {ks:List Str} {ps:List (Int×Int)} {n:Str} {W:List (List Int)} {c κ g T:Nat} {L:Int} (h:Pcs nm rows ks ps n W c κ g T L) {w:List Int} (hw:w∈W) (hc:cfs (rows.zip w) n≠0):lj L c g κ T (cnd nm rows ks ps n w).1 :=
 tq h.P h.hκ h.L0 h.hL h.hg (f8 h.H w) h.k6 (h.nms w hw) (by rw [dz h.H];exact hc) (by rw [dz h.H];exact h.cb w hw n) (h.tb hw) (h.bb w hw)
inductive eY (ds:List D) (R:D→Prop):Prop
 | mk (nm:List Str) (rows:List Rw) (ks:List Str) (ps:List (Int×Int)) (n:Str) (W:List (List Int)) (c κ g T:Nat) (L:Int) (hh:ds=[.str n,stpD nm rows W,.dct ks (ps.map frD)]∧Pcs nm rows ks ps n W c κ g T L ∧
 R (.tup [oD (pcs nm rows ks ps n W).1.1,.bl (pcs nm rows ks ps n W).1.2,oD (pcs nm rows ks ps n W).2.1,.bl (pcs nm rows ks ps n W).2.2]))
theorem gT:∀ ds R,eY ds R→ds.length=3:=fun _ _ ⟨_,_,_,_,_,_,_,_,_,_,_,e,_⟩=>by rw [e];rfl
theorem tE {nm:List Str} {rows:List Rw} {ks:List Str} {ps:List (Int×Int)} {n:Str} {W:List (List Int)} {i:Nat} {w:List Int} (h:W[i]?=some w):pcs nm rows ks ps n (W.take (i + 1)) =
    (if 0 < cfs (rows.zip w) n then tgt true (pcs nm rows ks ps n (W.take i)).1 (some (cnd nm rows ks ps n w).1,(cnd nm rows ks ps n w).2) else (pcs nm rows ks ps n (W.take i)).1,
     if cfs (rows.zip w) n < 0 then tgt false (pcs nm rows ks ps n (W.take i)).2 (some (cnd nm rows ks ps n w).1,(cnd nm rows ks ps n w).2) else (pcs nm rows ks ps n (W.take i)).2):=by
  unfold pcs
  rw [aG h,List.foldl_append]
  rfl
theorem a5:ax ["name","sums","point","low","high","row","weights","weight"] ["name","sums","point"] (ak s_piece_for):=⟨rfl,rfl,rfl,by decide +kernel,rfl,by decide +kernel,by decide +kernel⟩
theorem ji (F:Fd K mg "piece_for" s_piece_for ["name","sums","point"]) (aL:Cal P w K mg base 1 "weight_of" ["name","row"] (spD K (bZ))) (e8:Cal P w K mg base 2 "tighter" ["one","other","is_low"] (spD K (gJ))) (d4:Cal P w K mg base 3 "bound_on" ["name","row","point"] (spD K (d6))) (g_ENDLESS:GEnd K mg "ENDLESS"):Cal P w K mg base 4 "piece_for" ["name","sums","point"] (spD K eY):=by
 refine fn_D F a5 gT fun fa cdv A outer s H E ds R hr h=>?_
 have hU:=hr.units
 refine⟨_,(ad (aB 3 a5.nd (qd rfl g_ENDLESS)) (ad (aB 4 a5.nd (qd rfl g_ENDLESS)) (ad (cU PassesOwn.never rfl (de_v 1) (b7 (n:=2) rfl (aF (am 5 a5.nd) (aF (am 6 a5.nd) bn))) (ad (aB 7 a5.nd (av aL (rm hr) rfl (ac (de_v 0) (ac (de_v 5) ag)))) (ad (a7 (aI o_gt (de_v 7) ae (ar _)) (af (aB 3 a5.nd (av e8 (rm hr) rfl (ac (de_v 3) (ac (bN (ac (av d4 (rm hr) rfl (ac (de_v 0) (ac (de_v 5) (ac (de_v 2) ag)))) (ac (bT (o_eq hU) (aw au (de_v 5) ae (fun _ _=>rfl)) bm (ar _)) ag))) (ac eg ag)))))) aH) (af (a7 (aI o_lt (de_v 7) ae (ar _)) (af (aB 4 a5.nd (av e8 (rm hr) rfl (ac (de_v 4) (ac (bN (ac (av d4 (rm hr) rfl (ac (de_v 0) (ac (de_v 5) (ac (de_v 2) ag)))) (ac (bT (o_eq hU) (aw au (de_v 5) ae (fun _ _=>rfl)) bm (ar _)) ag))) (ac eg ag)))))) aH))))) (af (ay (aC bC (de_v 3) (de_v 4))))))),?_⟩
 obtain ⟨nm,rows,ks,ps,n,W,c,κ,g,T,L,rfl,S,q⟩:=h
 unfold stpD
 refine ap fun K1 hK1=>?_
 walk_at "rd"
 rw [hK1]
 refine ap fun K2 hK2=>?_
 walk_at "rd"
 rw [hK2]
 refine ap fun K3 hK3=>?_
 refine dg fun F N hF hN=>?_
 simp only [f6]
 walk_at "rd"
 refine⟨fun i δ=>∃ x y z,δ=[.dat (.str n),.dat (.lst (W.map (smD nm rows))),.dat (.dct ks (ps.map frD)),.dat (endD (pcs nm rows ks ps n (W.take i)).1),.dat (endD (pcs nm rows ks ps n (W.take i)).2),x,y,z],⟨_,_,_,rfl⟩,?_,?_⟩
 ·rintro i d δ hd ⟨x,y,z,rfl⟩
  obtain ⟨w,hw,rfl⟩:=m3 hd
  have hm:=List.mem_of_getElem? hw
  have pre:=u8 (nm:=nm) (rows:=rows) (ks:=ks) (ps:=ps) (n:=n) (Pr:=fun p=>ib p.1≤1000000∧ib p.2≤8000) (W:=W.take i) fun w hw hc=>by
   have k:=S.cnd (List.mem_of_mem_take hw) hc
   have k1:=k.bb
   have k2:=k.tb
   have k3:=S.cg
   have k4:=S.hT
   exact⟨by omega,by omega⟩
  rw [hF]
  simp only [tE hw]
  generalize pcs nm rows ks ps n (W.take i)=e at *
  obtain ⟨lo,hi⟩:=e
  show jP _ _ (.tup [rwD (smR nm rows w),.tup (w.map D.int)]) _ _
  refine cK fun K4 hK4=>?_
  walk_at "rd"
  refine⟨n,smR nm rows w,rfl,f8 S.H w,?_⟩
  rw [dz S.H,hK4]
  have k6:=S.k6
  have bnd:cfs (rows.zip w) n≠0→∀ R:D→Prop,R (frD (cnd nm rows ks ps n w).1)→d6 [.str n,rwD (smR nm rows w),.dct ks (ps.map frD)] R:=fun hc R r =>
   ⟨n,smR nm rows w,ks,ps,c,κ,T,rfl,f8 S.H w,k6,S.nms w hm,by rw [dz S.H];exact hc,S.P,by have:=S.hT;omega,S.hκ,by have:=S.cκ;omega,by rw [dz S.H];exact S.cb w hm n,S.tb hm,S.bb w hm,r⟩
  have cb:cfs (rows.zip w) n≠0→∀ p,some (cnd nm rows ks ps n w).1=some p→ib p.1≤1000000∧ib p.2≤8000:=fun hc p hp=>by
   cases hp
   have k:=S.cnd hm hc
   have k1:=k.bb
   have k2:=k.tb
   have k3:=S.cg
   have k4:=S.hT
   exact⟨by omega,by omega⟩
  have word:∀ R:D→Prop,R (.bl (cnd nm rows ks ps n w).2)→fIx [rwD (smR nm rows w),.int 0] fun d=>fEq [d,.str "least"] R:=fun R r=>by
   unfold rwD rowD smR
   walk_at "rd"
   rw [uk]
   exact r
  generalize cnd nm rows ks ps n w=cn at *
  obtain ⟨cp,cs⟩:=cn
  rcases Int.lt_trichotomy (cfs (rows.zip w) n) 0 with hc | hc | hc
  ·refine ap fun K5 hK5=>?_
   walk_at "rd"
   refine ifn (by omega) ?_
   rw [hK5]
   walk_at "rd"
   refine ifp hc (bnd (by omega) _ (word _ ?_))
   refine⟨hi,(some cp,cs),false,rfl,pre.2,cb (by omega),?_⟩
   simp only [if_neg (show ¬ 0 < cfs (rows.zip w) n by omega),if_pos hc]
   first | exact⟨_,_,_,rfl⟩ | trivial | rfl
  ·refine ap fun K5 hK5=>?_
   walk_at "rd"
   refine ifn (by omega) ?_
   rw [hK5]
   walk_at "rd"
   refine ifn (by omega) ?_
   simp only [if_neg (show ¬ 0 < cfs (rows.zip w) n by omega),if_neg (show ¬ cfs (rows.zip w) n < 0 by omega)]
   first | exact⟨_,_,_,rfl⟩ | trivial | rfl
  ·refine ap fun K5 hK5=>?_
   walk_at "rd"
   refine ifp hc (bnd (by omega) _ (word _ ?_))
   refine⟨lo,(some cp,cs),true,rfl,pre.1,cb (by omega),?_⟩
   rw [hK5]
   walk_at "rd"
   refine ifn (by omega) ?_
   simp only [if_pos hc,if_neg (show ¬ cfs (rows.zip w) n < 0 by omega)]
   first | exact⟨_,_,_,rfl⟩ | trivial | rfl
 ·rintro δ ⟨x,y,z,rfl⟩
  rw [List.length_map,List.take_length,hN,hK3]
  unfold endD
  walk_at "rd"
  exact q
def fitQ (c:Nat→Nat):Nat→Nat→Nat→Nat→Bool
 | 0,κ,_,T=>decide (κ≤7990) && decide (T≤1000000)
 | k + 1,κ,g,T=>(decide (c k + g≤3990) && decide (c k + κ≤7990)) && (decide (g≤κ) && decide (c k + T + κ + 80≤1000000)) && fitQ c k (κ + (2 * c k + g + 2)) (2 * c k + 2 + g) (2 * (c k + T + κ + 72) + 2)
structure St (B:Nat) (nm:List Str) (rows:List Rw) (l ks:List Str) (ps:List (Int×Int)) (κ g T:Nat) (L:Int):Prop where
 P:Pt ks ps T
 hκ:ib (bot (pB ks ps) ks)≤κ
 L0:L≠0
 hL:∀ k∈ks,pB ks ps k ∣ L
 hg:ib L≤g
 fq:fitQ (cb B 6) l.length κ g T=true
 so:∀ w∈stW rows l,soR (ptR ks ps) (smR nm rows w)
theorem wX {ks:List Str} {ps:List (Int×Int)} {n:Str} {v:Int×Int} {T T':Nat} (P:Pt ks ps T) (hv:Low v.1 v.2) (hT:T≤T') (h1:ib v.1≤T') (h2:ib v.2≤T'):Pt (ks++[n]) (ps++[v]) T' :=
  ⟨by simp [P.len],fun p hp=>(List.mem_append.mp hp).elim (P.low p) fun z=>by rw [List.mem_singleton.mp z];exact hv,fun p hp=>(List.mem_append.mp hp).elim (fun z=>Nat.le_trans (P.b1 p z) hT) fun z=>by rw [List.mem_singleton.mp z];exact h1,
   fun p hp=>(List.mem_append.mp hp).elim (fun z=>Nat.le_trans (P.b2 p z) hT) fun z=>by rw [List.mem_singleton.mp z];exact h2⟩
theorem uo {ks:List Str} {ps:List (Int×Int)} {n:Str} {v:Int×Int} (hl:ps.length=ks.length) (hn:n∉ks):bot (pB (ks++[n]) (ps++[v])) (ks++[n])=bot (pB ks ps) ks * v.2:=by
 rw [fN,mf]
 have e1:pB (ks++[n]) (ps++[v]) n=v.2:=by unfold pB;rw [fj hl hn,if_pos rfl]
 rw [e1]
 congr 1
 refine kw fun k hk=>?_
 unfold pB
 rw [fj hl hn,if_neg (fun (z:k=n)=>hn (z ▸ hk))]
theorem St.step {B N:Nat} {nm:List Str} {rows:List Rw} {n:Str} {l ks:List Str} {ps:List (Int×Int)} {κ g T:Nat} {L:Int} (F:Fit nm rows B N) (h:St B nm rows (n :: l) ks ps κ g T L) (hnk:n∉ks) (hkl:ks.length≤60) (hcov:∀ k∈nm,k∈ks∨k=n∨k∈l) :
  Pcs nm rows ks ps n (stW rows l) (cb B 6 l.length) κ g T L∧(∀ p,(pcs nm rows ks ps n (stW rows l)).1.1=some p→lj L (cb B 6 l.length) g κ T p)∧(∀ p,(pcs nm rows ks ps n (stW rows l)).2.1=some p→lj L (cb B 6 l.length) g κ T p) ∧
  ∃ κ' g' T' L',St B nm rows l (ks++[n]) (ps++[nmb (pcs nm rows ks ps n (stW rows l)).1.1 (pcs nm rows ks ps n (stW rows l)).2.1]) κ' g' T' L':=by
 obtain ⟨P,hκ,L0,hL,hg,fq,so⟩:=h
 have hfq:((cb B 6 l.length + g≤3990∧cb B 6 l.length + κ≤7990)∧(g≤κ∧cb B 6 l.length + T + κ + 80≤1000000))∧fitQ (cb B 6) l.length (κ + (2 * cb B 6 l.length + g + 2)) (2 * cb B 6 l.length + 2 + g) (2 * (cb B 6 l.length + T + κ + 72) + 2)=true:=by
  have:((decide (cb B 6 l.length + g≤3990) && decide (cb B 6 l.length + κ≤7990)) && (decide (g≤κ) && decide (cb B 6 l.length + T + κ + 80≤1000000)) && fitQ (cb B 6) l.length (κ + (2 * cb B 6 l.length + g + 2)) (2 * cb B 6 l.length + 2 + g) (2 * (cb B 6 l.length + T + κ + 72) + 2))=true:=fq
  simpa only [Bool.and_eq_true,decide_eq_true_eq] using this
 obtain ⟨⟨⟨f1,f1'⟩,f2,f2'⟩,f3⟩:=hfq
 have hcb:=A5 (B:=B) F.m6 l.length
 have S:Pcs nm rows ks ps n (stW rows l) (cb B 6 l.length) κ g T L:=by
  refine⟨F.H,hkl,fun w hw t ht hne=>?_,P,f2',hκ,L0,hL,hg,f2,f1,f1',fun w hw x=>Nat.le_trans (F.H.cfb F.hB (cO F.H F.hB hw) x) hcb,fun w hw=>Nat.le_trans (Rws.bdb F.hB (cO F.H F.hB hw)) hcb⟩
  obtain ⟨m1,m2,_⟩:=jh ht
  rcases hcov t.1 m1 with z | z | z
  ·exact z
  ·exact absurd z hne
  ·exact absurd ((ci hw).2 _ z) m2
 have pof:=u8 (nm:=nm) (rows:=rows) (ks:=ks) (ps:=ps) (n:=n) (Pr:=lj L (cb B 6 l.length) g κ T) (W:=stW rows l) fun w hw hc=>S.cnd hw hc
 have bk:=back F.H so (sH hnk) (fun w hw t ht hne=>P.pos (S.nms w hw t ht hne))
 obtain ⟨s1,s2,M,m0,mb,md⟩:=tP L0 hg f2 pof.1 pof.2
 refine⟨S,pof.1,pof.2,_,_,_,M * L,wX P bk.1 (by omega) s1 (by omega),?_,Int.mul_ne_zero m0 L0,fun k hk=>?_,intBits_mul_le mb hg,f3,fun w hw=>?_⟩
 ·rw [uo P.len hnk]
  exact intBits_mul_le hκ s2
 ·unfold pB
  rw [fj P.len hnk]
  by_cases e:k=n
  ·rw [if_pos e];exact md
  ·rw [if_neg e]
   rcases List.mem_append.mp hk with z | z
   ·exact Int.dvd_trans (hL k z) (Int.dvd_mul_left ..)
   ·exact absurd (List.mem_singleton.mp z) e
 ·rw [mK P.len hnk]
  exact bk.2 w hw
inductive dN (ds:List D) (R:D→Prop):Prop
 | mk (nm:List Str) (rows:List Rw) (B N:Nat) (ns ks:List Str) (ps:List (Int×Int)) (κ g T:Nat) (L:Int) (hh:ds=[.lst ((tows rows ns).map (stpD nm rows)),.lst (ns.map D.str),.dct ks (ps.map frD)]∧Fit nm rows B N∧ns.length≤N∧ks.length≤20∧(ks++ns).Nodup∧(∀ n∈nm,n∈ks∨n∈ns)∧St B nm rows ns ks ps κ g T L∧R (.fd (ks++ns) ((fbk nm rows ns ks ps).map frD)))
theorem gh:∀ ds R,dN ds R→ds.length=3:=fun _ _ ⟨_,_,_,_,_,_,_,_,_,_,_,e,_⟩=>by rw [e];rfl
theorem AY (o:Option (Int×Int)):D.im (oD o)=true:=by cases o<;>rfl
theorem Aa {ns:List Str} {L:List D} {i:Nat} {d:D} (h:(zipD (ns.map D.str) L)[i]?=some d):∃ n e,ns[i]?=some n∧L[i]?=some e∧d=.tup [.str n,e]:=by
 unfold zipD at h
 rw [List.getElem?_zipWith] at h
 rw [List.getElem?_map] at h
 cases e1:ns[i]? with
 | none=>rw [e1] at h;cases h
 | some n =>
  rw [e1] at h
  cases e2:L[i]? with
  | none=>rw [e2] at h;cases h
  | some e=>rw [e2] at h;exact⟨n,e,rfl,rfl,(Option.some.inj h).symm⟩
theorem cut1 {α:Type} (xs:List α) (h:0 < xs.length):cut xs (some 1) none=xs.drop 1:=by
 unfold cut
 have e1:HT.sIx xs.length 0 (some 1)=1:=by unfold HT.sIx;simp;omega
 have e2:HT.sIx xs.length xs.length none=xs.length:=rfl
 rw [e1,e2]
 exact List.take_of_length_le (by rw [List.length_drop];omega)
theorem cu:ax ["steps","names","point","told","name","sums"] ["steps","names","point"] (ak s_found_back):=⟨rfl,rfl,rfl,by decide +kernel,rfl,by decide +kernel,by decide +kernel⟩
theorem iz (F:Fd K mg "found_back" s_found_back ["steps","names","point"]) (e6:Cal P w K mg base 4 "number_in" ["piece"] (spD K (eU))) (eJ:Cal P w K mg base 4 "piece_for" ["name","sums","point"] (spD K (eY))) (fF:mg "dict"=none) (et:mg "zip"=none):Cal P w K mg base 5 "found_back" ["steps","names","point"] (spD K dN):=by
 refine fn_D F cu gh fun fa cdv A outer s H E ds R hr h=>?_
 have hU:=hr.units
 refine⟨_,(ad (mT 3 cu.nd rfl fF (de_v 2)) (ad (fZ PassesOwn.never rfl (kG true true rfl et (ac (de_v 1) (ac (rP (de_v 0) (gM ae) mF) ag))) (b7 (n:=2) rfl (aF (am 4 cu.nd) (aF (am 5 cu.nd) bn))) (af (dL 3 hU (av e6 (rm hr) rfl (ac (uc 3 eJ (rm hr) rfl (de_v 4) (de_v 5)) ag)) (de_v 4)))) (eZ 3 (af (ay (de_v 3)))))),?_⟩
 obtain ⟨nm,rows,B,N0,ns,ks,ps,κ,g,T,L,rfl,F,h4,k20,nd,cov,St0,q⟩:=h
 have n4:=F.n4
 refine ap fun K1 hK1=>?_
 walk_at "rd"
 refine⟨ks,ps.map frD,.inl ⟨rfl,rfl⟩,fun da=>?_⟩
 rw [hK1]
 refine ap fun K2 hK2=>?_
 refine dX fun Fb N hF hN=>?_
 simp only [jH]
 walk_at "rd"
 rw [cut1 _ (by rw [List.length_map,fi];omega),← List.map_drop]
 have zl:(zipD (ns.map D.str) (((tows rows ns).drop 1).map (stpD nm rows))).length=ns.length:=by
  unfold zipD
  rw [List.length_zipWith,List.length_map,List.length_map,List.length_drop,fi]
  omega
 refine⟨fun i δ=>∃ (ks':List Str) (ps':List (Int×Int)) (x y:Sl),δ=[.dat (.lst ((tows rows ns).map (stpD nm rows))),.dat (.lst (ns.map D.str)),.dat (.dct ks (ps.map frD)),.own da (.dct ks' (ps'.map frD)),x,y]∧ks'=ks++ns.take i∧fbk nm rows (ns.drop i) ks' ps'=fbk nm rows ns ks ps∧∃ κ g T L,St B nm rows (ns.drop i) ks' ps' κ g T L,⟨ks,ps,_,_,rfl,by simp,rfl,κ,g,T,L,St0⟩,?_,?_⟩
 ·rintro i d δ hd ⟨ks',ps',x,y,rfl,rfl,hfb,κ',g',T',L',S'⟩
  obtain ⟨n,e,hn,he,rfl⟩:=Aa hd
  have hil:i < ns.length:=(List.getElem?_eq_some_iff.mp hn).1
  rw [List.getElem?_map,List.getElem?_drop,mZ ns (1 + i) (by omega)] at he
  have he:=(Option.some.inj he).symm
  subst he
  have edr:ns.drop i=n :: ns.drop (i + 1):=by
   rw [List.drop_eq_getElem_cons hil]
   congr 1
   exact (List.getElem?_eq_some_iff.mp hn).2
  rw [Nat.add_comm 1 i]
  rw [edr] at hfb S'
  have nd3:(ks++ns.take i++n :: ns.drop (i + 1)).Nodup:=by
   rw [← edr,List.append_assoc,List.take_append_drop];exact nd
  have hnk:n∉ks++ns.take i:=fun z=>(List.nodup_append.mp nd3).2.2 n z n (List.mem_cons_self ..) rfl
  have hcov:∀ k∈nm,k∈ks++ns.take i∨k=n∨k∈ns.drop (i + 1):=fun k hk=>by
   rcases cov k hk with z | z
   ·exact .inl (List.mem_append_left _ z)
   ·rw [← List.take_append_drop i ns,edr] at z
    rcases List.mem_append.mp z with z | z
    ·exact .inl (List.mem_append_right _ z)
    ·rcases List.mem_cons.mp z with z | z
     ·exact .inr (.inl z)
     ·exact .inr (.inr z)
  have hkl:(ks++ns.take i).length≤60:=by rw [List.length_append,List.length_take];omega
  have tk1:ns.take (i + 1)=ns.take i++[n]:=aG hn
  simp only [tk1,← List.append_assoc]
  generalize ks++ns.take i=k0 at *
  generalize ns.drop (i + 1)=l at *
  obtain ⟨S,pf1,pf2,nxt⟩:=S'.step F hnk hkl hcov
  rw [hF]
  show jP _ _ (.tup [.str n,stpD nm rows (stW rows l)]) _ _
  walk_at "rd"
  refine⟨nm,rows,k0,ps',n,stW rows l,_,κ',g',T',L',rfl,S,?_⟩
  refine⟨by simp only [D.im,D.ims,AY];rfl,?_⟩
  have hfb':fbk nm rows l (k0++[n]) (ps'++[nmb (pcs nm rows k0 ps' n (stW rows l)).1.1 (pcs nm rows k0 ps' n (stW rows l)).2.1])=fbk nm rows ns ks ps:=hfb
  clear hfb
  have cg:=S.cg
  have hT:=S.hT
  generalize pcs nm rows k0 ps' n (stW rows l)=e at *
  obtain ⟨lo,hi⟩:=e
  simp only at pf1 pf2 nxt hfb' ⊢
  refine⟨lo.1,hi.1,lo.2,hi.2,rfl,fun p hp=>?_,fun p hp=>?_,?_⟩
  ·have k:=pf1 p hp
   have k1:=k.bb
   have k2:=k.tb
   exact⟨k.low.ne,by omega,by omega⟩
  ·have k:=pf2 p hp
   have k1:=k.bb
   have k2:=k.tb
   exact⟨k.low.ne,by omega,by omega⟩
  ·generalize nmb lo.1 hi.1=v at *
   have lk:k0.length < 9000:=by omega
   refine⟨lk,?_⟩
   rw [nO hnk,nV hnk]
   exact⟨ps'++[v],by rw [List.map_append];rfl,rfl,hfb',nxt⟩
 ·rintro δ ⟨ks',ps',x,y,rfl,rfl,hfb,_⟩
  rw [zl] at hfb ⊢
  rw [List.drop_length] at hfb
  rw [List.take_length,hN,hK2]
  have hfb:ps'=fbk nm rows ns ks ps:=hfb
  rw [hfb]
  walk_at "rd"
  exact q
def so0 (l:List (Rw×Int)):Bool:=ms (kOf (stc l)) 0 (bds l)
def slv (nm:List Str) (rows:List Rw) (ns:List Str):D:=match (stW rows ns).find? (fun w=>!so0 (rows.zip w)) with
 | some w=>.tup [.str "weights",.tup (w.map D.int)]
 | none=>.tup [.str "point",.fd ns ((fbk nm rows ns [] []).map frD)]
def None (rows:List Rw):Prop:=∀ x:Str→Rat,∃ r∈rows,¬ soR x r
inductive jI (ds:List D) (R:D→Prop):Prop
 | mk (nm:List Str) (rows:List Rw) (B N:Nat) (ns:List Str) (hh:ds=[.lst (rows.map rwD),.lst (ns.map D.str)]∧Fit nm rows B N∧ns.length≤N∧ns.Nodup∧(∀ n∈nm,n∈ns)∧(fitQ (cb B 6) ns.length 1 1 0=true∨None rows)∧R (slv nm rows ns))
theorem kf:∀ ds R,jI ds R→ds.length=2:=fun _ _ ⟨_,_,_,_,_,e,_⟩=>by rw [e];rfl
theorem sy {nm:List Str} {rows:List Rw} {ns:List Str} (hin:∀ n∈nm,n∈ns) {w:List Int} (hw:w∈stW rows ns):(smR nm rows w).2.1=[]:=by
 cases e:(smR nm rows w).2.1 with
 | nil=>rfl
 | cons t r =>
  have ht:t∈(smR nm rows w).2.1:=by rw [e];exact List.mem_cons_self ..
  obtain ⟨h1,h2,_⟩:=jh ht
  exact absurd ((ci hw).2 _ (hin _ h1)) h2
theorem w5 {nm:List Str} {rows:List Rw} {ns:List Str} (hin:∀ n∈nm,n∈ns) {w:List Int} (hw:w∈stW rows ns):rwD (smR nm rows w)=(Say.row (kOf (stc (rows.zip w))) [] (bds (rows.zip w))).D:=by
 have e:=sy hin hw
 show rowD _ (smR nm rows w).2.1 _=_
 rw [e];rfl
theorem Ak {nm:List Str} {rows:List Rw} {ns:List Str} (hin:∀ n∈nm,n∈ns) {w:List Int} (hw:w∈stW rows ns) (x:Str→Rat):so0 (rows.zip w)=true↔soR x (smR nm rows w):=by
 have e:=sy hin hw
 unfold soR so0
 rw [e]
 show _↔(match kOf (stc (rows.zip w)) with | .least=>((bds (rows.zip w):Int):Rat)≤0 | .more=>((bds (rows.zip w):Int):Rat) < 0)
 cases stc (rows.zip w)
 ·show decide (bds (rows.zip w)≤0)=true↔_
  rw [decide_eq_true_eq]
  exact (Rat.intCast_le_intCast (a:=bds (rows.zip w)) (b:=0)).symm
 ·show decide (bds (rows.zip w) < 0)=true↔_
  rw [decide_eq_true_eq]
  exact (Rat.intCast_lt_intCast (a:=bds (rows.zip w)) (b:=0)).symm
theorem rQ {α:Type} {p:α→Bool} {l:List α} {i:Nat} {x:α} (h:l[i]?=some x) (hn:∀ y∈l.take i,p y=false) (hp:p x=true):l.find? p=some x:=by
 rw [← List.take_append_drop i l,List.find?_append]
 have e1:(l.take i).find? p=none:=List.find?_eq_none.mpr fun y hy=>by rw [hn y hy];decide
 have hi:i < l.length:=(List.getElem?_eq_some_iff.mp h).1
 rw [e1,List.drop_eq_getElem_cons hi,(List.getElem?_eq_some_iff.mp h).2,List.find?_cons_of_pos hp];rfl
theorem ul:∀ {k:Nat},k≤4→fitQ (cb 64 6) k 1 1 0=true
 | 0,_=>by decide
 | 1,_=>by decide
 | 2,_=>by decide
 | 3,_=>by decide
 | 4,_=>by decide
 | k + 5,h=>by omega
theorem uZ {nm:List Str} {rows:List Rw} {ns:List Str} (H:Rws nm rows) (nd:ns.Nodup) (hin:∀ n∈nm,n∈ns) (so:∀ w∈stW rows ns,soR (ptR [] []) (smR nm rows w)):∀ r∈rows,soR (ptR ns (fbk nm rows ns [] [])) r:=fun r hr=>by
 obtain ⟨_,_,_,d⟩:=vk H ns [] [] rfl (fun _ h=>nomatch h) (by simpa using nd) (fun n hn=>.inr (hin n hn)) so
 rw [List.nil_append] at d
 obtain ⟨j,hj⟩:=List.getElem?_of_mem hr
 have:=d (unW rows.length j) (List.mem_map.mpr ⟨j,List.mem_range.mpr (List.getElem?_eq_some_iff.mp hj).1,rfl⟩)
 rw [ni H hj] at this
 exact this
theorem St.start {B N:Nat} {nm:List Str} {rows:List Rw} {ns:List Str} (F:Fit nm rows B N) (nd:ns.Nodup) (hin:∀ n∈nm,n∈ns) (fq:fitQ (cb B 6) ns.length 1 1 0=true∨None rows) (so:∀ w∈stW rows ns,soR (ptR [] []) (smR nm rows w)):St B nm rows ns [] [] 1 1 0 1:=by
 refine⟨⟨rfl,(fun _ h=>nomatch h),(fun _ h=>nomatch h),(fun _ h=>nomatch h)⟩,by show ib 1≤1;decide,by decide,(fun _ h=>nomatch h),by decide,?_,so⟩
 rcases fq with h | h
 ·exact h
 ·obtain ⟨r,hr,no⟩:=h (ptR ns (fbk nm rows ns [] []))
  exact absurd (uZ F.H nd hin so r hr) no
theorem fk:ax ["rows","names","steps","row","weights"] ["rows","names"] (ak s_solved):=⟨rfl,rfl,rfl,by decide +kernel,rfl,by decide +kernel,by decide +kernel⟩
theorem oq (F:Fd K mg "solved" s_solved ["rows","names"]) (eR:Cal P w K mg base 5 "taken_out" ["rows","names"] (spD K (eA))) (lC:Cal P w K mg base 64 "is_so" ["saying","point"] (spD K (mG))) (dR:Cal P w K mg base 5 "found_back" ["steps","names","point"] (spD K (dN))):Cal P w K mg base 65 "solved" ["rows","names"] (spD K jI):=by
 refine fn_D F fk kf fun fa cdv A outer s H E ds R hr h=>?_
 have hU:=hr.units
 refine⟨_,(ad (aB 2 fk.nd (av eR (rm hr) rfl (ac (de_v 0) (ac (de_v 1) ag)))) (ad (cU PassesOwn.never rfl (aw au (de_v 2) ae (fun _ _=>rfl)) (b7 (n:=2) rfl (aF (am 3 fk.nd) (aF (am 4 fk.nd) bn))) (af (a7 (dM (cP (av lC (rm hr) rfl (ac (de_v 3) (ac nu ag))))) (af (ay (bN (ac bm (ac (de_v 4) ag))))) aH))) (af (ay (bN (ac bm (ac (av dR (rm hr) rfl (ac (de_v 2) (ac (de_v 1) (ac nu ag)))) ag))))))),?_⟩
 obtain ⟨nm,rows,B,N0,ns,rfl,F,h4,nd,hin,fq,q⟩:=h
 refine ap fun K1 hK1=>?_
 walk_at "rd"
 refine⟨nm,rows,B,N0,ns,rfl,F,h4,?_⟩
 rw [hK1]
 have e0:(tows rows ns).map (stpD nm rows)=stpD nm rows (stW rows ns) :: ((tows rows ns).drop 1).map (stpD nm rows):=by
  cases ns<;>rfl
 refine ap fun K2 hK2=>?_
 refine dg fun Fb N hF hN=>?_
 simp only [f6]
 rw [e0]
 walk_at "rd"
 rw [← e0]
 refine⟨(stW rows ns).map (smD nm rows),rfl,fun i δ=>∃ x y,δ=[.dat (.lst (rows.map rwD)),.dat (.lst (ns.map D.str)),.dat (.lst ((tows rows ns).map (stpD nm rows))),x,y]∧∀ w∈(stW rows ns).take i,so0 (rows.zip w)=true,⟨_,_,rfl,fun w hw=>by simp at hw⟩,?_,?_⟩
 ·rintro i d δ hd ⟨x,y,rfl,ho⟩
  obtain ⟨w,hw,rfl⟩:=m3 hd
  have hm:=List.mem_of_getElem? hw
  rw [hF]
  show jP _ _ (.tup [rwD (smR nm rows w),.tup (w.map D.int)]) _ _
  walk_at "rd"
  have bb:ib (bds (rows.zip w))≤10000:=by
   have h1:=Rws.bdb F.hB (cO F.H F.hB hm)
   have h2:=F.ck h4
   unfold cb at h2
   omega
  refine⟨Say.row (kOf (stc (rows.zip w))) [] (bds (rows.zip w)),[],[],[],0,1,?_,by show 1≤60;decide,⟨⟨by simp,(fun _ h=>nomatch h),(fun _ h=>nomatch h)⟩,bb⟩,by decide,(fun _ h=>nomatch h),⟨rfl,(fun _ h=>nomatch h),(fun _ h=>nomatch h),(fun _ h=>nomatch h)⟩,by decide,by show ib 1≤1;decide,by decide,?_⟩
  ·rw [w5 hin hm];rfl
  ·have e1:(Say.row (kOf (stc (rows.zip w))) [] (bds (rows.zip w))).tv (pT [] []) (pB [] [])=so0 (rows.zip w):=by
    show ms _ 0 (bds (rows.zip w) * 1)=_
    rw [Int.mul_one];rfl
   rw [e1]
   cases e:so0 (rows.zip w) with
   | false =>
    refine⟨false,rfl,ifp rfl ?_⟩
    have:=rQ (p:=fun w=>!so0 (rows.zip w)) hw (fun y hy=>by rw [ho y hy];rfl) (by rw [e];rfl)
    unfold slv at q
    rw [this] at q
    exact q
   | true =>
    refine⟨true,rfl,ifn (by decide) ?_⟩
    rw [aG hw]
    intro u hu
    rcases List.mem_append.mp hu with hu | hu
    ·exact ho u hu
    ·rw [List.mem_singleton.mp hu];exact e
 ·rintro δ ⟨x,y,rfl,ho⟩
  rw [List.length_map,List.take_length] at ho
  rw [hN,hK2]
  have en:(stW rows ns).find? (fun w=>!so0 (rows.zip w))=none:=List.find?_eq_none.mpr fun w hw=>by rw [ho w hw];decide
  unfold slv at q
  rw [en] at q
  walk_at "rd"
  refine⟨nm,rows,B,N0,ns,[],[],1,1,0,1,rfl,F,h4,by decide,by simpa using nd,fun n hn=>.inr (hin n hn),St.start F nd hin fq fun w hw=>(Ak hin hw _).mp (ho w hw),?_⟩
  walk_at "rd"
  exact q
def rwN (r:Rw):List Str:=r.2.1.map (·.1)
inductive xS (ds:List D) (R:D→Prop):Prop
 | mk (nm:List Str) (rows:List Rw) (B N:Nat) (hh:ds=[.lst (rows.map rwD)]∧Fit nm rows B N∧nm.length≤N∧(fitQ (cb B 6) nm.length 1 1 0=true∨None rows)∧(∀ n∈nm,∃ r∈rows,n∈rwN r)∧R (slv nm rows nm))
theorem ql:∀ ds R,xS ds R→ds.length=1:=fun _ _ ⟨_,_,_,_,e,_⟩=>by rw [e];rfl
theorem zu {ss nm:List Str} (h1:Srt ss) (n1:ss.Nodup) (h2:nm.Pairwise leS) (n2:nm.Nodup) (h:∀ n,n∈ss↔n∈nm):ss=nm:=g6 (iV h1) h2 n1 n2 h
theorem nP {rows:List Rw} {i:Nat} {d:D} (h:(rows.map rwD)[i]?=some d):∃ r,rows[i]?=some r∧d=rwD r:=by
 rw [List.getElem?_map] at h
 cases e:rows[i]? with
 | none=>rw [e] at h;cases h
 | some n=>rw [e] at h;exact⟨n,rfl,(Option.some.inj h).symm⟩
theorem oQ {l nm:List Str} (h1:l.Pairwise leS) (n1:l.Nodup) (h2:nm.Pairwise leS) (n2:nm.Nodup) (h:∀ n∈l,n∈nm):l.Sublist nm:=by
 have e:l=nm.filter fun n=>decide (n∈l):=g6 h1 (h2.filter _) n1 (n2.filter _) fun n=>by
  rw [List.mem_filter]
  exact⟨fun z=>⟨h n z,by simpa using z⟩,fun z=>by simpa using z.2⟩
 rw [e]
 exact List.filter_sublist
theorem kD {ks:List Str} {x:Str}:vPut ks (c6 ks.length) x (.bl true)=c6 (kPut ks x).length:=by
 unfold vPut kPut
 by_cases e:x∈ks
 ·rw [if_pos e,if_pos e,gO]
 ·rw [if_neg e,if_neg e,List.length_append,List.length_singleton]
  unfold c6
  rw [List.replicate_succ']
theorem ny:ax ["rows","found","row","name"] ["rows"] (ak s_met):=⟨rfl,rfl,rfl,by decide +kernel,rfl,by decide +kernel,by decide +kernel⟩
theorem xP (F:Fd K mg "met" s_met ["rows"]) (cx:Cal P w K mg base 63 "names_of" ["saying"] (spD K (d7))) (jv:Cal P w K mg base 65 "solved" ["rows","names"] (spD K (jI))) (aQ:mg "sorted"=none):Cal P w K mg base 66 "met" ["rows"] (spD K xS):=by
 refine fn_D F ny ql fun fa cdv A outer s H E ds R hr h=>?_
 have hU:=hr.units
 refine⟨_,(ad (eK 1 ny.nd) (ad (cU PassesOwn.never rfl (de_v 0) (am 2 ny.nd) (af (cU PassesOwn.never rfl (av cx (rm hr) rfl (ac (de_v 2) ag)) (am 3 ny.nd) (af (dL 1 hU eg (de_v 3)))))) (bJ 1 (af (ay (av jv (rm hr) rfl (ac (de_v 0) (ac (aM (de rfl) rfl aQ c5 (ac (de_v 1) ag)) ag)))))))),?_⟩
 obtain ⟨nm,rows,B,N0,rfl,F,h4,fq,hnm,q⟩:=h
 have n4:=F.n4
 walk_at "rd"
 intro fa
 refine dg fun Fb N hF hN=>?_
 simp only [f6]
 walk_at "rd"
 refine⟨fun i δ=>∃ ks x y,δ=[.dat (.lst (rows.map rwD)),.own fa (.dct ks (c6 ks.length)),x,y]∧ks.Nodup∧∀ n,n∈ks↔∃ r∈rows.take i,n∈rwN r,⟨[],_,_,rfl,List.nodup_nil,fun n=>by simp⟩,?_,?_⟩
 ·rintro i d δ hd ⟨ks,x,y,rfl,nd,hk⟩
  obtain ⟨r,hr,rfl⟩:=nP hd
  have hm:=List.mem_of_getElem? hr
  rw [hF]
  refine dg fun F2 N2 hF2 hN2=>?_
  simp only [f6]
  walk_at "rd"
  have b34:B≤7990:=by have:=F.ck (k:=0) (by omega);unfold cb at this;omega
  have hsub:(r.2.1.map (·.1)).Sublist nm:=oQ (F.H.sum r hm).pw (F.H.sum r hm).nd F.H.pw F.H.nd fun n hn=>by
   obtain ⟨t,ht,rfl⟩:=List.mem_map.mp hn
   exact F.H.sub r hm t ht
  have hok:(Say.row r.1 r.2.1 r.2.2).ok nm:=⟨⟨hsub,fun t ht=>(F.H.sum r hm).val t ht |>.2,fun t ht=>Nat.le_trans (F.hB.tm r hm t ht) (by omega)⟩,Nat.le_trans (F.hB.bd r hm) (by omega)⟩
  refine⟨nm,Say.row r.1 r.2.1 r.2.2,rfl,by show 1≤60;decide,hok,F.n6,fun ss nds hms hs=>?_⟩
  walk_at "rd"
  refine⟨fun j δ=>∃ ks y,δ=[.dat (.lst (rows.map rwD)),.own fa (.dct ks (c6 ks.length)),.dat (rwD r),y]∧ks.Nodup∧∀ n,n∈ks↔(∃ r∈rows.take i,n∈rwN r)∨n∈ss.take j,⟨ks,_,rfl,nd,fun n=>by rw [hk n];simp⟩,?_,?_⟩
  ·rintro j d δ hd ⟨ks,y,rfl,nd,hk⟩
   obtain ⟨n,hn,rfl⟩:=fc hd
   rw [hF2]
   walk_at "rd"
   have hsm:∀ n∈ks,n∈nm:=fun n hn=>by
    rcases (hk n).mp hn with ⟨r',hr',h⟩ | h
    ·obtain ⟨t,ht,rfl⟩:=List.mem_map.mp h
     exact F.H.sub r' (List.mem_of_mem_take hr') t ht
    ·exact hsub.subset ((hms n).mp (List.mem_of_mem_take h))
   refine⟨by have:=dD nd hsm;omega,?_⟩
   rw [kD]
   refine⟨rfl,fR nd,fun m=>?_⟩
   rw [cN,hk m,aG hn,List.mem_append,List.mem_singleton,or_assoc]
  ·rintro δ ⟨ks,y,rfl,nd,hk⟩
   rw [List.length_map,List.take_length] at hk
   rw [hN2]
   walk_at "rd"
   refine⟨nd,fun n=>?_⟩
   rw [hk n,aG hr]
   constructor
   ·rintro (⟨r',h1,h2⟩ | h)
    ·exact⟨r',List.mem_append_left _ h1,h2⟩
    ·exact⟨r,List.mem_append_right _ (List.mem_singleton.mpr rfl),(hms n).mp h⟩
   ·rintro ⟨r',h1,h2⟩
    rcases List.mem_append.mp h1 with h1 | h1
    ·exact .inl ⟨r',h1,h2⟩
    ·rw [List.mem_singleton.mp h1] at h2
     exact .inr ((hms n).mpr h2)
 ·rintro δ ⟨ks,x,y,rfl,nd,hk⟩
  rw [List.length_map,List.take_length] at hk
  have hks:∀ n,n∈ks↔n∈nm:=fun n=>by
   rw [hk n]
   constructor
   ·rintro ⟨r,hr,hn⟩
    obtain ⟨t,ht,rfl⟩:=List.mem_map.mp hn
    exact F.H.sub r hr t ht
   ·exact fun h=>hnm n h
  have hl:=dD nd fun n hn=>(hks n).mp hn
  rw [hN]
  walk_at "rd"
  refine⟨by omega,fun ss' pm st=>?_⟩
  have e:=zu st (pm.nodup_iff.mpr nd) F.H.pw F.H.nd fun n=>(pm.mem_iff).trans (hks n)
  subst e
  exact⟨ss',rows,B,N0,ss',rfl,F,h4,F.H.nd,fun n hn=>hn,fq,q⟩
theorem uQ {nm:List Str} {rows:List Rw} {B N:Nat} (F:Fit nm rows B N):∀ (ns ks:List Str) (ps:List (Int×Int)) (κ g T:Nat) (L:Int),St B nm rows ns ks ps κ g T L→(ks++ns).Nodup→(ks++ns).length≤60→(∀ n∈nm,n∈ks∨n∈ns) →
  ∃ κ g T L,St B nm rows [] (ks++ns) (fbk nm rows ns ks ps) κ g T L
 | [],ks,ps,κ,g,T,L,S,nd,hl,cov=>by
  rw [List.append_nil]
  exact⟨κ,g,T,L,S⟩
 | n :: l,ks,ps,κ,g,T,L,S,nd,hl,cov=>by
  have hnk:n∉ks:=fun z=>(List.nodup_append.mp nd).2.2 n z n (List.mem_cons_self ..) rfl
  obtain ⟨_,_,_,κ',g',T',L',S'⟩:=S.step F hnk (by rw [List.length_append] at hl;omega) fun k hk=>by
   rcases cov k hk with z | z
   ·exact .inl z
   ·exact .inr (List.mem_cons.mp z)
  have e:ks++n :: l=ks++[n]++l:=by simp
  rw [e] at nd hl ⊢
  exact uQ F l (ks++[n]) _ κ' g' T' L' S' nd hl fun k hk=>by
   rcases cov k hk with z | z
   ·exact .inl (List.mem_append_left _ z)
   ·rcases List.mem_cons.mp z with z | z
    ·exact .inl (List.mem_append_right _ (List.mem_singleton.mpr z))
    ·exact .inr z
structure wL (rows:List Rw) (w:List Int):Prop where
 wt:Wt rows.length w
 no:∀ n,cfs (rows.zip w) n=0
 bd:0 < bds (rows.zip w)∨(bds (rows.zip w)=0∧stc (rows.zip w)=true)
structure Meets (nm:List Str) (rows:List Rw) (ps:List (Int×Int)):Prop where
 P:Pt nm ps 1000000
 κ:ib (bot (pB nm ps) nm)≤7990
 so:∀ r∈rows,soR (ptR nm ps) r
theorem zU {nm:List Str} {rows:List Rw} {B N:Nat} {ns:List Str} (F:Fit nm rows B N) (h4:ns.length≤N) (nd:ns.Nodup) (hin:∀ n∈nm,n∈ns) (fq:fitQ (cb B 6) ns.length 1 1 0=true∨None rows) :
  (∃ w,slv nm rows ns=.tup [.str "weights",.tup (w.map D.int)]∧wL rows w∧∀ a∈w,ib a≤wb B 6 ns.length)∨∃ ps,slv nm rows ns=.tup [.str "point",.fd ns (ps.map frD)]∧Meets ns rows ps:=by
 unfold slv
 cases e:(stW rows ns).find? (fun w=>!so0 (rows.zip w)) with
 | some w =>
  have hw:=List.mem_of_find?_eq_some e
  have hp:(!so0 (rows.zip w))=true:=by have:=List.find?_some e;exact this
  obtain ⟨wt,an⟩:=ci hw
  refine .inl ⟨w,rfl,⟨wt,fun n=>?_,?_⟩,fun a ha=>?_⟩
  ·refine Classical.byContradiction fun z=>z (an n (hin n (F.H.cfs z)))
  ·unfold so0 at hp
   cases h:stc (rows.zip w)
   ·rw [h] at hp
    have:¬ bds (rows.zip w)≤0:=by
     have hp:(!decide (bds (rows.zip w)≤0))=true:=hp
     simpa using hp
    exact .inl (by omega)
   ·rw [h] at hp
    have:¬ bds (rows.zip w) < 0:=by
     have hp:(!decide (bds (rows.zip w) < 0))=true:=hp
     simpa using hp
    by_cases z:bds (rows.zip w)=0
    ·exact .inr ⟨z,rfl⟩
    ·exact .inl (by omega)
  ·exact Nat.le_trans (cO F.H F.hB hw a ha) (uC (Nat.le_refl B) F.m6 _)
 | none =>
  have all:∀ w∈stW rows ns,so0 (rows.zip w)=true:=fun w hw=>by
   have:=List.find?_eq_none.mp e w hw
   simpa using this
  have so:∀ w∈stW rows ns,soR (ptR [] []) (smR nm rows w):=fun w hw=>(Ak hin hw _).mp (all w hw)
  have n4:=F.n4
  obtain ⟨κ,g,T,L,S⟩:=uQ F ns [] [] 1 1 0 1 (St.start F nd hin fq so) (by simpa using nd) (by simp;omega) (fun n hn=>.inr (hin n hn))
  rw [List.nil_append] at S
  have hf:κ≤7990∧T≤1000000:=by
   have:(decide (κ≤7990) && decide (T≤1000000))=true:=S.fq
   simpa only [Bool.and_eq_true,decide_eq_true_eq] using this
  exact .inr ⟨_,rfl,S.P.mono hf.2,Nat.le_trans S.hκ hf.1,uZ F.H nd hin so⟩
def cz (ns:List Int) (k:Int):Int:=ns.getD k.toNat 0
inductive eF (ds:List D) (R:D→Prop):Prop
 | mk (ns:List Int) (k:Int) (hh:ds=[.fz (ns.map D.int),.int k]∧0≤k∧R (.int (cz ns k)))
theorem gQ:∀ ds R,eF ds R→ds.length=2:=fun _ _ ⟨_,_,e,_⟩=>by rw [e];rfl
theorem qY {α:Type} {xs:List α} {k:Int} (h0:0≤k) (h:k < xs.length):atI xs k=xs[k.toNat]?:=by
 unfold atI ixN
 rw [if_pos h0,if_pos h]
 rfl
theorem kA:ax ["_law_script","_law_k"] ["_law_script","_law_k"] (ak s__law_cell):=⟨rfl,rfl,rfl,by decide +kernel,rfl,by decide +kernel,by decide +kernel⟩
theorem jE (F:Fd K mg "_law_cell" s__law_cell ["_law_script","_law_k"]) (bx:mg "len"=none):Cal P w K mg base 1 "_law_cell" ["_law_script","_law_k"] (spD K eF):=by
 refine fn_D F kA gQ fun fa cdv A outer s H E ds R hr h=>?_
 have hU:=hr.units
 refine⟨_,(ad (a7 (aI o_lt (de_v 1) (aM iJ rfl bx fB (ac (de_v 0) ag)) (ar _)) (af (ay (aw au (de_v 0) (de_v 1) (fun _ _=>rfl)))) aH) (af (ay ae))),?_⟩
 obtain ⟨ns,k,rfl,h0,q⟩:=h
 walk_at "rd"
 refine ite2 (fun c=>?_) (fun c=>?_)
 ·rw [List.length_map] at c
  refine⟨.int (cz ns k),?_,q⟩
  rw [qY h0 (by rw [List.length_map];exact c),List.getElem?_map]
  have:k.toNat < ns.length:=by omega
  unfold cz
  rw [List.getD_eq_getElem?_getD,List.getElem?_eq_getElem this]
  rfl
 ·rw [List.length_map] at c
  have:ns.length≤k.toNat:=by omega
  unfold cz at q
  rw [List.getD_eq_getElem?_getD,List.getElem?_eq_none this] at q
  exact q
theorem zm {α:Type} {xs:List α} {k:Nat}:cut xs none (some (k:Int))=xs.take k:=by
 unfold cut
 rw [HT.sIx_none,HT.sIx_nat,List.drop_zero,Nat.sub_zero]
 by_cases h:k≤xs.length
 ·rw [Nat.min_eq_left h]
 ·rw [Nat.min_eq_right (by omega),List.take_length,List.take_of_length_le (by omega)]
theorem wv {α β:Type} {f:α→β} {xs:List α} {k:Nat} (h:k < xs.length):atI (xs.map f) (k:Int)=some (f xs[k]):=by
 rw [qY (by omega) (by rw [List.length_map];omega),List.getElem?_map,Int.toNat_natCast,List.getElem?_eq_getElem h]
 rfl
theorem wm {a b c:Rat} (h:0 < c):c * a≤c * b↔a≤b :=
 ⟨fun z=>Rat.not_lt.mp fun y=>absurd (Rat.mul_lt_mul_of_pos_left y h) (Rat.not_lt.mpr z),fun z=>Rat.mul_le_mul_of_nonneg_left z (Rat.le_of_lt h)⟩
theorem wD {ks:List Str} {ps:List (Int×Int)} {k:Kd} {ts:List (Str×Int)} {b:Int} (h:∀ t∈ts,0 < pB ks ps t.1):oP (pT ks ps) (pB ks ps) k ts b=true↔soR (ptR ks ps) (k,ts,b):=by
 have hK:0 < bot (pB ks ps) (ts.map (·.1)):=cD fun n hn=>by
  obtain ⟨t,h1,rfl⟩:=List.mem_map.mp hn
  exact h t h1
 have e:=jT (ks:=ks) (ps:=ps) (K:=bot (pB ks ps) (ts.map (·.1))) (ts:=ts) fun t ht=>⟨h t ht,dJ (List.mem_map.mpr ⟨t,ht,rfl⟩)⟩
 unfold oP
 generalize bot (pB ks ps) (ts.map (·.1))=K at *
 have k0:=iX hK
 generalize sumT (ov (pT ks ps) (pB ks ps) K) ts=S at *
 have key:∀ x:Rat,(S:Rat)=(K:Rat) * x→(((b:Rat)≤x↔b * K≤S)∧((b:Rat) < x↔b * K < S)):=fun x hx=>by
  have e1:((b * K:Int):Rat)=(b:Rat) * (K:Rat):=Rat.intCast_mul ..
  constructor
  ·rw [← Rat.intCast_le_intCast,e1,hx,Rat.mul_comm (b:Rat)]
   exact (wm k0).symm
  ·rw [← Rat.intCast_lt_intCast,e1,hx,Rat.mul_comm (b:Rat)]
   exact (Rat.mul_lt_mul_left k0).symm
 obtain ⟨k1,k2⟩:=key _ e
 cases k with
 | least=>show decide (b * K≤S)=true↔_;rw [decide_eq_true_eq];exact k1.symm
 | more=>show decide (b * K < S)=true↔_;rw [decide_eq_true_eq];exact k2.symm
theorem qR {ns:List Int} {n:Nat} (hb:∀ c∈ns,Builtin.Int.intBits c≤n) (k:Int):Builtin.Int.intBits (cz ns k)≤n:=by
 unfold cz
 rw [List.getD_eq_getElem?_getD]
 cases e:ns[k.toNat]? with
 | none=>exact Nat.le_trans (by decide:Builtin.Int.intBits 0≤0) (Nat.zero_le _)
 | some c=>exact hb c (List.mem_of_getElem? e)
theorem xM {α β:Type} (f:α→β) (l:List α) (lo hi:Option Int):cut (l.map f) lo hi=(cut l lo hi).map f:=by
 unfold cut
 rw [List.length_map,List.map_take,List.map_drop]
theorem xy {α:Type} {l:List α} {lo hi:Option Int} {x:α} (h:x∈cut l lo hi):x∈l:=List.mem_of_mem_drop (List.mem_of_mem_take h)
theorem cnz {i j:Int} (h:j≠0):CNz i j:=h
theorem uF {i j:Int} (h0:j≠0) (h:j.natAbs.log2 < 9000):CFd i j:=⟨h0,h⟩
inductive cL (ds:List D) (R:D→Prop):Prop
 | mk (i:Int) (hh:ds=[.int i]∧R (.bl true))
theorem f9:∀ ds R,cL ds R→ds.length=1:=fun _ _ ⟨_,e,_⟩=>by rw [e];rfl
theorem jk:ax ["_law_found"] ["_law_found"] (ak s__law_whole):=⟨rfl,rfl,rfl,by decide +kernel,rfl,by decide +kernel,by decide +kernel⟩
theorem iG (F:Fd K mg "_law_whole" s__law_whole ["_law_found"]) (aJ:mg "isinstance"=none) (re:mg "bool"=none) (xa:mg "int"=none):Cal P w K mg base 1 "_law_whole" ["_law_found"] (spD K cL):=by
 refine fn_D F jk f9 fun fa cdv A outer s H E ds R hr h=>?_
 have hU:=hr.units
 refine⟨_,(af (ay (io (iL zO rfl aJ rfl xa AA (de_v 0)) (dw (uJ (iL xV rfl aJ rfl re Al (de_v 0))))))),?_⟩
 obtain ⟨i,rfl,q⟩:=h
 walk_at "rd"
 exact q
inductive bS (ds:List D) (R:D→Prop):Prop
 | mk (p:Int×Int) (hh:ds=[frD p]∧Low p.1 p.2∧R (.bl true))
theorem dA:∀ ds R,bS ds R→ds.length=1:=fun _ _ ⟨_,e,_⟩=>by rw [e];rfl
theorem a8:ax ["_law_found","_law_one","_law_other"] ["_law_found"] (ak s__law_is_fraction):=⟨rfl,rfl,rfl,by decide +kernel,rfl,by decide +kernel,by decide +kernel⟩
theorem eh (F:Fd K mg "_law_is_fraction" s__law_is_fraction ["_law_found"]) (bf:Cal P w K mg base 1 "_law_whole" ["_law_found"] (spD K (cL))) (bx:mg "len"=none) (aJ:mg "isinstance"=none) (aR:mg "tuple"=none) (oX:mg "abs"=none):Cal P w K mg base 2 "_law_is_fraction" ["_law_found"] (spD K bS):=by
 refine fn_D F a8 dA fun fa cdv A outer s H E ds R hr h=>?_
 have hU:=hr.units
 refine⟨_,(ad (a7 (DW.dt (i7 (dM (cP (iL jx rfl aJ rfl aR dS (de_v 0)))) (i7 (aI (fQ hU) (aM iJ rfl bx fB (ac (de_v 0) ag)) ae (ar _)) (i7 (dM (cP (av bf (rm hr) rfl (ac (aw au (de_v 0) ae (fun _ _=>rfl)) ag)))) (iY (dM (cP (av bf (rm hr) rfl (ac (aw au (de_v 0) ae (fun _ _=>rfl)) ag))))))))) (af (ay eg)) aH) (ad (a7 (aI o_lt (aw au (de_v 0) ae (fun _ _=>rfl)) ae (ar _)) (af (ay eg)) aH) (ad (zN (de_v 0) (b7 (n:=2) rfl (aF (am 1 a8.nd) (aF (am 2 a8.nd) bn)))) (ad (mQ PassesOwn.never (aI (fQ hU) (de_v 2) ae (ar _)) (af (yc 1 2 rfl a8.nd (by decide) (ac (de_v 2) (ac (aC eD (de_v 1) (de_v 2)) ag))))) (af (ay (bT (o_eq hU) (aM yW rfl oX zz (ac (de_v 1) ag)) ae (ar _)))))))),?_⟩
 obtain ⟨⟨x,y⟩,rfl,lo,q⟩:=h
 have y0:0 < y:=lo.pos
 unfold frD
 refine ap fun K1 hK1=>?_
 walk_at "rd"
 refine ifn (fun z=>z rfl) ⟨x,rfl,true,rfl,ifn (by decide) ⟨y,rfl,true,rfl,ifn (by decide) ?_⟩⟩
 rw [hK1]
 refine ap fun K2 hK2=>?_
 walk_at "rd"
 refine ifn (by omega) ?_
 rw [hK2]
 refine ap fun K3 hK3=>?_
 walk_at "rd"
 rw [hK3]
 refine⟨fun δ=>∃ a b,δ=[.dat (.tup [.int x,.int y]),.dat (.int a),.dat (.int b)]∧gc a b=gc x y,fun δ=>match δ with | [_,_,.dat (.int b)]=>b.natAbs | _=>0,⟨x,y,rfl,rfl⟩,?_⟩
 rintro δ ⟨a,b,rfl,e⟩
 walk_at "rd"
 refine ite2 (fun c=>?_) (fun c=>?_)
 ·exact⟨c,(pO a b).trans e,em a b c⟩
 ·have c:=Decidable.not_not.mp c
  subst c
  rw [rL,lo.cop] at e
  rw [decide_eq_true e]
  exact q
inductive eC (ds:List D) (R:D→Prop):Prop
 | mk (a b c d:Int) (hh:ds=[.tup [.int a,.int b],.tup [.int c,.int d]]∧IntMulOk a d∧IntMulOk c b∧R (.int (a * d - c * b)))
theorem h9:∀ ds R,eC ds R→ds.length=2:=fun _ _ ⟨_,_,_,_,e,_⟩=>by rw [e];rfl
theorem kr:ax ["_law_one","_law_other"] ["_law_one","_law_other"] (ak s__law_over):=⟨rfl,rfl,rfl,by decide +kernel,rfl,by decide +kernel,by decide +kernel⟩
theorem jf (F:Fd K mg "_law_over" s__law_over ["_law_one","_law_other"]):Cal P w K mg base 1 "_law_over" ["_law_one","_law_other"] (spD K eC):=by
 refine fn_D F kr h9 fun fa cdv A outer s H E ds R hr h=>?_
 have hU:=hr.units
 refine⟨_,(af (ay (aC ku (aC bB (aw au (de_v 0) ae (fun _ _=>rfl)) (aw au (de_v 1) ae (fun _ _=>rfl))) (aC bB (aw au (de_v 1) ae (fun _ _=>rfl)) (aw au (de_v 0) ae (fun _ _=>rfl)))))),?_⟩
 obtain ⟨a,b,c,d,rfl,h1,h2,q⟩:=h
 walk_at "rd"
 exact⟨h1,h2,q⟩
structure Pk (ks:List Str) (ps:List (Int×Int)):Prop where
 P:Pt ks ps 3000000
 κ:ib (bot (pB ks ps) ks)≤20000
inductive dG (ds:List D) (R:D→Prop):Prop
  | mk (ts:List (Str×Int)) (ks:List Str) (ps:List (Int×Int)) (hh:ds=[.tup (ts.map tmD),.fd ks (ps.map frD)]∧(ts.map (·.1)).Nodup∧ts.length≤60∧(∀ t∈ts,t.1∈ks∧ib t.2≤10000)∧Pk ks ps ∧
  (ib (bot (pB ks ps) (ts.map (·.1)))≤20000→ib (sumT (ov (pT ks ps) (pB ks ps) (bot (pB ks ps) (ts.map (·.1)))) ts)≤3100000→0 < bot (pB ks ps) (ts.map (·.1)) →
  R (.tup [.int (sumT (ov (pT ks ps) (pB ks ps) (bot (pB ks ps) (ts.map (·.1)))) ts),.int (bot (pB ks ps) (ts.map (·.1)))])))
theorem gg:∀ ds R,dG ds R→ds.length=2:=fun _ _ ⟨_,_,_,e,_⟩=>by rw [e];rfl
theorem aX:ax ["_law_terms","_law_point","_law_top","_law_low","_law_name","_law_weight","_law_value"] ["_law_terms","_law_point"] (ak s__law_total):=⟨rfl,rfl,rfl,by decide +kernel,rfl,by decide +kernel,by decide +kernel⟩
theorem iF (F:Fd K mg "_law_total" s__law_total ["_law_terms","_law_point"]):Cal P w K mg base 1 "_law_total" ["_law_terms","_law_point"] (spD K dG):=by
 refine fn_D F aX gg fun fa cdv A outer s H E ds R hr h=>?_
 have hU:=hr.units
 refine⟨_,(ad (aB 2 aX.nd ae) (ad (aB 3 aX.nd ae) (ad (dZ PassesOwn.never rfl (de_v 0) (b7 (n:=2) rfl (aF (am 4 aX.nd) (aF (am 5 aX.nd) bn))) (ad (aB 6 aX.nd (cT hU (de_v 1) (de_v 4) (fun _ _=>rfl))) (ad (aB 2 aX.nd (aC bC (aC bB (de_v 2) (aw au (de_v 6) ae (fun _ _=>rfl))) (aC bB (aC bB (de_v 5) (aw au (de_v 6) ae (fun _ _=>rfl))) (de_v 3)))) (af (aB 3 aX.nd (aC bB (de_v 3) (aw au (de_v 6) ae (fun _ _=>rfl)))))))) (af (ay (bN (ac (de_v 2) (ac (de_v 3) ag)))))))),?_⟩
 obtain ⟨ts,ks,ps,rfl,nd,hl,ht,⟨P,hκ⟩,q⟩:=h
 walk_at "rd"
 simp only [ja]
 walk_at "rd"
 have tk:∀ i,∀ t∈ts.take i,t∈ts:=fun i t h=>List.mem_of_mem_take h
 have tb:∀ i,ib (bot (pB ks ps) ((ts.take i).map (·.1)))≤20000:=fun i=>kC (nd.sublist ((List.take_sublist i ts).map _)) (fun n hn=>by
  obtain ⟨t,h1,rfl⟩:=List.mem_map.mp hn
  exact (ht t (tk i t h1)).1) (fun n hn=>P.pos hn) hκ
 have ts':∀ i,ib (sumT (ov (pT ks ps) (pB ks ps) (bot (pB ks ps) ((ts.take i).map (·.1)))) (ts.take i))≤3100000:=fun i =>
  Nat.le_trans (fT (c:=10000) (m:=3020000) fun t h1=>⟨(ht t (tk i t h1)).2,intBits_mul_le (P.Tb (ht t (tk i t h1)).1) (intBits_fdiv_le (tb i))⟩) (by rw [List.length_take];omega)
 refine⟨fun i δ=>∃ x y z,δ=[.dat (.tup (ts.map tmD)),.dat (.fd ks (ps.map frD)),.dat (.int (sumT (ov (pT ks ps) (pB ks ps) (bot (pB ks ps) ((ts.take i).map (·.1)))) (ts.take i))),.dat (.int (bot (pB ks ps) ((ts.take i).map (·.1)))),x,y,z],⟨_,_,_,rfl⟩,?_,?_⟩
 ·rintro i d δ hd ⟨x,y,z,rfl⟩
  obtain ⟨t,hn,rfl⟩:=b8 hd
  have htm:=List.mem_of_getElem? hn
  have hk:=(ht t htm).1
  walk_at "rd"
  refine⟨_,P.D hk,?_⟩
  walk_at "rd"
  refine⟨mo2 (ts' i) (P.Bb hk),mo2 (ht t htm).2 (P.Tb hk),mo2 (intBits_mul_le (ht t htm).2 (P.Tb hk)) (tb i),mo2 (tb i) (P.Bb hk),?_⟩
  rw [aG hn,List.map_append,fN,List.map_singleton,mf]
  refine⟨uh (fun w hw=>⟨?_,dJ (List.mem_map.mpr ⟨w,hw,rfl⟩)⟩) ?_,rfl⟩
  ·have:=P.pos (ht w (tk i w hw)).1;omega
  ·have:=P.pos hk;omega
 ·rintro δ ⟨x,y,z,rfl⟩
  have e1:ts.take (ts.map tmD).length=ts:=by rw [List.length_map,List.take_length]
  have b1:=tb (ts.map tmD).length
  have b2:=ts' (ts.map tmD).length
  rw [e1] at b1 b2 ⊢
  walk_at "rd"
  exact q b1 b2 (cD fun n hn=>by
   obtain ⟨t,h1,rfl⟩:=List.mem_map.mp hn
   exact P.pos (ht t h1).1)
inductive dm (ds:List D) (R:D→Prop):Prop
 | mk (r:Rw) (ks:List Str) (ps:List (Int×Int)) (hh:ds=[rwD r,.fd ks (ps.map frD)]∧(r.2.1.map (·.1)).Nodup∧r.2.1.length≤60∧ib r.2.2≤10000∧(∀ t∈r.2.1,t.1∈ks∧ib t.2≤10000)∧Pk ks ps∧R (.bl (oP (pT ks ps) (pB ks ps) r.1 r.2.1 r.2.2)))
theorem fW:∀ ds R,dm ds R→ds.length=2:=fun _ _ ⟨_,_,_,e,_⟩=>by rw [e];rfl
theorem er:ax ["_law_row_here","_law_point","_law_found"] ["_law_row_here","_law_point"] (ak s__law_row_so):=⟨rfl,rfl,rfl,by decide +kernel,rfl,by decide +kernel,by decide +kernel⟩
theorem gK (F:Fd K mg "_law_row_so" s__law_row_so ["_law_row_here","_law_point"]) (eB:Cal P w K mg base 1 "_law_over" ["_law_one","_law_other"] (spD K (eC))) (dY:Cal P w K mg base 1 "_law_total" ["_law_terms","_law_point"] (spD K (dG))):Cal P w K mg base 2 "_law_row_so" ["_law_row_here","_law_point"] (spD K dm):=by
 refine fn_D F er fW fun fa cdv A outer s H E ds R hr h=>?_
 have hU:=hr.units
 refine⟨_,(ad (aB 2 er.nd (av eB (rm hr) rfl (ac (av dY (rm hr) rfl (ac (aw au (de_v 0) ae (fun _ _=>rfl)) (ac (de_v 1) ag))) (ac (bN (ac (aw au (de_v 0) ae (fun _ _=>rfl)) (ac ae ag))) ag)))) (af (ay (rT (bT o_gt (de_v 2) ae (ar _)) (dw (io (bT (o_eq hU) (de_v 2) ae (ar _)) (dw (bT (o_eq hU) (aw au (de_v 0) ae (fun _ _=>rfl)) bm (ar _))))))))),?_⟩
 obtain ⟨⟨k,ts,b⟩,ks,ps,rfl,nd,hl,bb,ht,Pk,q⟩:=h
 unfold rwD rowD
 walk_at "rd"
 refine⟨ts,ks,ps,rfl,nd,hl,ht,Pk,fun b1 b2 bp=>?_⟩
 walk_at "rd"
 refine⟨_,_,_,_,rfl,IntMulOk.of_right (by decide),mo2 bb b1,?_⟩
 walk_at "rd"
 have q:R (.bl (ms k (sumT (ov (pT ks ps) (pB ks ps) (bot (pB ks ps) (ts.map (·.1)))) ts) (b * bot (pB ks ps) (ts.map (·.1))))):=q
 generalize sumT (ov (pT ks ps) (pB ks ps) (bot (pB ks ps) (ts.map (·.1)))) ts=T at *
 generalize bot (pB ks ps) (ts.map (·.1))=B at *
 generalize b * B=C at *
 rw [Int.mul_one]
 refine ite2 (fun h1=>?_) fun h1=>ite2 (fun h2=>?_) fun h2=>?_
 ·cases k with
  | least=>have q:R (.bl (decide (C≤T))):=q;rw [decide_eq_true (by omega)] at q;exact q
  | more=>have q:R (.bl (decide (C < T))):=q;rw [decide_eq_true (by omega)] at q;exact q
 ·cases k with
  | least=>have q:R (.bl (decide (C≤T))):=q;rw [decide_eq_true (by omega)] at q;exact q
  | more=>have q:R (.bl (decide (C < T))):=q;rw [decide_eq_false (by omega)] at q;exact q
 ·cases k with
  | least=>have q:R (.bl (decide (C≤T))):=q;rw [decide_eq_false (by omega)] at q;exact q
  | more=>have q:R (.bl (decide (C < T))):=q;rw [decide_eq_false (by omega)] at q;exact q
structure Gr (S:List Str) (b:Nat) (r:Rw):Prop where
 is:dB (cf r.2.1) r.2.1
 sub:∀ t∈r.2.1,t.1∈S
 tb:∀ t∈r.2.1,ib t.2≤b
 bb:ib r.2.2≤b
theorem sT {ts:List (Str×Int)} (pw:(ts.map (·.1)).Pairwise leS) (nd:(ts.map (·.1)).Nodup) (nz:∀ t∈ts,t.2≠0):dB (cf ts) ts :=
 ⟨pw,nd,fun t ht=>⟨(jX nd ht).symm,nz t ht⟩,fun n hn=>Classical.byContradiction fun z=>hn (iy z)⟩
theorem lg64 {x:Int} (h0:0 < x) (h1:x < 64):x.natAbs.log2 < 9000:=by
 refine Nat.lt_of_lt_of_le ((Nat.log2_lt (by omega)).mpr (show x.natAbs < 2 ^ 6 by omega)) (by decide)
inductive dh (ds:List D) (R:D→Prop):Prop
 | mk (c:_) (hh:ds=[.int c]∧ib c≤1048600∧∀ r,ib r≤30→R (.int r))
theorem fX:∀ ds R,dh ds R→ds.length=1:=fun _ _ ⟨_,e,_⟩=>by rw [e];rfl
theorem cQ:ax ["_law_cell_here","_law_kind"] ["_law_cell_here"] (ak s__law_number):=⟨rfl,rfl,rfl,by decide +kernel,rfl,by decide +kernel,by decide +kernel⟩
theorem ik (F:Fd K mg "_law_number" s__law_number ["_law_cell_here"]):Cal P w K mg base 1 "_law_number" ["_law_cell_here"] (spD K dh):=by
 refine fn_D F cQ fX fun fa cdv A outer s H E ds R hr h=>?_
 have hU:=hr.units
 refine⟨_,(ad (aB 1 cQ.nd (aC eD (de_v 0) ae)) (ad (aB 0 cQ.nd (aC dU (de_v 0) ae)) (ad (a7 (aI (o_eq hU) (de_v 1) ae (ar _)) (af (ay ae)) aH) (ad (a7 (aI o_lt (de_v 1) ae (ar _)) (af (ay (aC ku (aC eD (de_v 0) ae) ae))) aH) (af (ay (aC ku (aC eD (de_v 0) (aC bC (aC bB ae (aC yw ae ae)) ae)) (aC yw ae ae)))))))),?_⟩
 obtain ⟨c,rfl,hc,q⟩:=h
 walk_at "rd"
 have e9:(10:Int) ^ Int.toNat 9=1000000000:=by decide +kernel
 rw [e9]
 have bb:∀ {x:Int},-1000000000≤x→x≤1000000000→ib x≤30:=fun h0 h1=>intBits_le_iff.mpr (by rw [show (2:Nat) ^ 30=1073741824 by decide +kernel];omega)
 refine⟨cnz (by decide),uF (by decide) (by decide +kernel),ite2 (fun _=>q 0 (by decide)) fun _=>ite2 (fun _=>⟨cnz (by decide),q _ ?_⟩) fun _=>⟨⟨by decide,by decide,by decide⟩,IntMulOk.of_left (by decide),cnz (by decide),⟨by decide,by decide,by decide⟩,q _ ?_⟩⟩
 ·have a0:=Int.fmod_nonneg_of_pos (c.fdiv 5) (b:=7) (by decide)
  have a1:=Int.fmod_lt_of_pos (c.fdiv 5) (b:=7) (by decide)
  exact bb (by omega) (by omega)
 ·have a0:=Int.fmod_nonneg_of_pos (c.fdiv 5) (b:=2 * 1000000000 + 1) (by decide)
  have a1:=Int.fmod_lt_of_pos (c.fdiv 5) (b:=2 * 1000000000 + 1) (by decide)
  exact bb (by omega) (by omega)
theorem atL {α β:Type} {f:α→β} {xs:List α} {k:Nat} (h:k < xs.length):atI (xs.map f) (k:Int)=some (f xs[k]):=by
 rw [qY (by omega) (by rw [List.length_map];omega),List.getElem?_map,Int.toNat_natCast,List.getElem?_eq_getElem h]
 rfl
theorem uM:∀ ts:List (Str×Int),D.ims (ts.map tmD)=true
 | []=>rfl
 | t :: ts=>by rw [List.map_cons];simp only [D.ims,uM ts];rfl
theorem BF (r:Rw):D.im (rwD r)=true:=by
 unfold rwD rowD
 simp only [D.im,D.ims,uM];rfl
def kE:Nat→Int→List Str→List Str
 | 0,_,_=>[]
 | k + 1,c,L=>L.getD (c.fmod L.length).toNat "" :: kE k (c.fdiv L.length) (L.eraseIdx (c.fmod L.length).toNat)
theorem zt {c:Int} {L:List Str} (h:0 < L.length):(c.fmod L.length).toNat < L.length:=by
 have a0:=Int.fmod_nonneg_of_pos c (b:=L.length) (by omega)
 have a1:=Int.fmod_lt_of_pos c (b:=L.length) (by omega)
 omega
theorem wZ {L:List Str} {j:Nat} (h:j < L.length):(L[j] :: L.eraseIdx j).Perm L:=by
 rw [List.eraseIdx_eq_take_drop_succ]
 have e:L=L.take j++L[j] :: L.drop (j + 1):=by rw [← List.drop_eq_getElem_cons h,List.take_append_drop]
 exact List.perm_middle.symm.trans (List.Perm.of_eq e.symm)
theorem uR {α β:Type} (f:α→β):∀ (l:List α) (j:Nat),(l.map f).eraseIdx j=(l.eraseIdx j).map f
 | [],_=>rfl
 | a :: l,0=>rfl
 | a :: l,j + 1=>by show f a :: (l.map f).eraseIdx j=f a :: (l.eraseIdx j).map f;rw [uR f l j]
theorem nD:∀ (k:Nat) (c:Int) (L:List Str),L.Nodup→k≤L.length→(kE k c L).Nodup∧(kE k c L).length=k∧∀ x∈kE k c L,x∈L
 | 0,_,_,_,_=>⟨List.nodup_nil,rfl,fun _ h=>nomatch h⟩
 | k + 1,c,L,nd,h=>by
  have hj:=zt (c:=c) (L:=L) (by omega)
  have e:L.getD (c.fmod L.length).toNat ""=L[(c.fmod L.length).toNat]:=by rw [List.getD_eq_getElem?_getD,List.getElem?_eq_getElem hj];rfl
  have pm:=wZ hj
  have nd2:=pm.nodup_iff.mpr nd
  obtain ⟨n1,n2⟩:=List.nodup_cons.mp nd2
  obtain ⟨h1,h2,h3⟩:=nD k (c.fdiv L.length) (L.eraseIdx (c.fmod L.length).toNat) n2 (by rw [List.length_eraseIdx,if_pos hj];omega)
  unfold kE
  rw [e]
  refine⟨List.nodup_cons.mpr ⟨fun z=>n1 (h3 _ z),h1⟩,by rw [List.length_cons,h2],fun x hx=>?_⟩
  rcases List.mem_cons.mp hx with rfl | hx
  ·exact List.getElem_mem hj
  ·exact List.mem_of_mem_eraseIdx (h3 x hx)
def alph:List Str:=(PySem.Str.cps "abcdefghijklmnopqrstuvwxyz").toList.map fun c=>⟨#[c]⟩
theorem xU:alph.Nodup:=by decide +kernel
theorem nH:alph.length=26:=by decide +kernel
theorem oA:sP "abcdefghijklmnopqrstuvwxyz"=alph.map D.str:=by unfold sP alph;rw [List.map_map];rfl
def pk4 (c:Int):List Str:=kE 4 c alph
theorem qP (c:Int):(pk4 c).Nodup∧(pk4 c).length=4:=let ⟨a,b,_⟩:=nD 4 c alph xU (by rw [nH];decide);⟨a,b⟩
inductive cR (ds:List D) (R:D→Prop):Prop
 | mk (c:_) (hh:ds=[.int c]∧ib c≤1048600∧∀ ss:List Str,ss.Perm (pk4 c)→Srt ss→R (.lst (ss.map D.str)))
theorem fw:∀ ds R,cR ds R→ds.length=1:=fun _ _ ⟨_,e,_⟩=>by rw [e];rfl
theorem bq:ax ["_law_cell_here","_law_letters_here","_law_found","_law_k"] ["_law_cell_here"] (ak s__law_letters):=⟨rfl,rfl,rfl,by decide +kernel,rfl,by decide +kernel,by decide +kernel⟩
theorem gf (F:Fd K mg "_law_letters" s__law_letters ["_law_cell_here"]) (iU:mg "list"=none) (bX:mg "range"=none) (bx:mg "len"=none) (aQ:mg "sorted"=none):Cal P w K mg base 1 "_law_letters" ["_law_cell_here"] (spD K cR):=by
 refine fn_D F bq fw fun fa cdv A outer s H E ds R hr h=>?_
 have hU:=hr.units
 refine⟨_,(ad (tf 1 bq.nd rfl rfl iU bm) (ad (ip 2 bq.nd ag) (ad (l9 PassesOwn.never rfl rfl bX (ac ae ag) (am 3 bq.nd) (ad (cw 2 (qD 1 (aC eD (de_v 0) (jw 1 rfl bx fB)))) (af (aB 0 bq.nd (aC dU (de_v 0) (aC bC (jw 1 rfl bx fB) ae)))))) (bJ 2 (af (ay (aM (de rfl) rfl aQ c5 (ac (de_v 2) ag)))))))),?_⟩
 obtain ⟨c,rfl,hc,q⟩:=h
 refine ap fun K1 hK1=>?_
 walk_at "rd"
 refine⟨by decide +kernel,fun la=>?_⟩
 rw [hK1,oA]
 refine ap fun K2 hK2=>?_
 walk_at "rd"
 intro fa
 rw [hK2]
 refine ap fun K3 hK3=>?_
 refine nF fun F N hF hN=>?_
 simp only [sG]
 walk_at "rd"
 refine⟨by decide,by decide,fun i δ=>∃ (c':Int) (L fd:List Str) (x:Sl),δ=[.dat (.int c'),.own la (.lst (L.map D.str)),.own fa (.lst (fd.map D.str)),x]∧L.length=26 - i∧fd.length=i∧fd++kE (4 - i) c' L=pk4 c,⟨c,alph,[],_,rfl,nH,rfl,rfl⟩,?_,?_⟩
 ·rintro i δ hi ⟨c',L,fd,x,rfl,hL,hf,hp⟩
  have hi:i < 4:=hi
  have hj:=zt (c:=c') (L:=L) (by omega)
  have a0:=Int.fmod_nonneg_of_pos c' (b:=L.length) (by omega)
  rw [hF]
  show iT _ _ _ _
  refine cK fun K4 hK4=>?_
  walk_at "rd"
  rw [List.length_map]
  refine⟨cnz (by omega),(c'.fmod L.length).toNat,by omega,by omega,.str (L[(c'.fmod L.length).toNat]),by rw [List.getElem?_map,List.getElem?_eq_getElem hj];rfl,?_⟩
  rw [uR]
  refine⟨by rw [List.length_map];omega,?_⟩
  rw [hK4]
  walk_at "rd"
  rw [List.length_map]
  have le:(L.eraseIdx (c'.fmod L.length).toNat).length=L.length - 1:=by rw [List.length_eraseIdx,if_pos hj]
  refine⟨⟨by omega,?_⟩,L.eraseIdx (c'.fmod L.length).toNat,rfl,fd++[L[(c'.fmod L.length).toNat]],by rw [List.map_append];rfl,by omega,by rw [List.length_append,List.length_singleton];omega,?_⟩
  ·exact lg64 (by omega) (by omega)
  ·have e4:4 - i=(4 - (i + 1)) + 1:=by omega
   rw [e4] at hp
   unfold kE at hp
   have e:L.getD (c'.fmod L.length).toNat ""=L[(c'.fmod L.length).toNat]:=by rw [List.getD_eq_getElem?_getD,List.getElem?_eq_getElem hj];rfl
   rw [e] at hp
   rw [List.append_assoc,List.singleton_append]
   have e2:((L.eraseIdx (c'.fmod L.length).toNat).length:Int) + 1=(L.length:Int):=by omega
   rw [e2]
   exact hp
 ·rintro δ ⟨c',L,fd,x,rfl,hL,hf,hp⟩
  have hp:fd++[]=pk4 c:=hp
  rw [List.append_nil] at hp
  rw [hN,hK3,hp]
  walk_at "rd"
  have:=(qP c).2
  exact⟨_,rfl,by omega,fun ss' pm st=>q ss' pm st⟩
inductive fS (ds:List D) (R:D→Prop):Prop
 | mk (cs:List Int) (hh:ds=[.lst (cs.map D.int)]∧∃ h6:cs.length=6,(∀ c∈cs,ib c≤1048600)∧∀ r:Rw,Gr (pk4 ((cs[0]'(by omega)).fdiv 4)) 30 r→R (rwD r))
theorem iD:∀ ds R,fS ds R→ds.length=1:=fun _ _ ⟨_,e,_⟩=>by rw [e];rfl
theorem cC:ax ["_law_cells","_law_names","_law_terms","_law_k","_law_weight"] ["_law_cells"] (ak s__law_row):=⟨rfl,rfl,rfl,by decide +kernel,rfl,by decide +kernel,by decide +kernel⟩
theorem kM (F:Fd K mg "_law_row" s__law_row ["_law_cells"]) (cS:Cal P w K mg base 1 "_law_letters" ["_law_cell_here"] (spD K (cR))) (cq:Cal P w K mg base 1 "_law_number" ["_law_cell_here"] (spD K (dh))) (bX:mg "range"=none) (aR:mg "tuple"=none):Cal P w K mg base 2 "_law_row" ["_law_cells"] (spD K fS):=by
 refine fn_D F cC iD fun fa cdv A outer s H E ds R hr h=>?_
 have hU:=hr.units
 refine⟨_,(ad (aB 1 cC.nd (av cS (rm hr) rfl (ac (aC dU (aw au (de_v 0) ae (fun _ _=>rfl)) ae) ag))) (ad (ip 2 cC.nd ag) (ad (l9 PassesOwn.never rfl rfl bX (ac ae ag) (am 3 cC.nd) (ad (aB 4 cC.nd (av cq (rm hr) rfl (ac (aw au (de_v 0) (aC bC ae (de_v 3)) (fun _ _=>rfl)) ag))) (af (a7 (aI (fQ hU) (de_v 4) ae (ar _)) (af (cw 2 (bN (ac (aw au (de_v 1) (de_v 3) (fun _ _=>rfl)) (ac (de_v 4) ag))))) aH)))) (af (ay (bN (ac (aw au (uX (ac bm (ac bm ag))) (aC eD (aw au (de_v 0) ae (fun _ _=>rfl)) ae) (fun _ _=>rfl)) (ac (qS 2 rfl aR dS) (ac (av cq (rm hr) rfl (ac (aw au (de_v 0) ae (fun _ _=>rfl)) ag)) ag))))))))),?_⟩
 obtain ⟨cs,rfl,hl,hb,q⟩:=h
 have ca:∀ k:Nat,(h:k < 6)→atI (cs.map D.int) (k:Int)=some (.int (cs[k]'(by omega))):=fun k h=>atL (by omega)
 have cb:∀ k:Nat,(h:k < 6)→ib (cs[k]'(by omega))≤1048600:=fun k h=>hb _ (List.getElem_mem _)
 refine ap fun K hK=>?_
 walk_at "rd"
 refine⟨_,ca 0 (by decide),?_⟩
 walk_at "rd"
 refine⟨uF (by decide) (by decide +kernel),_,rfl,intBits_fdiv_le (cb 0 (by decide)),fun nms pm st=>?_⟩
 obtain ⟨p1,p2⟩:=qP ((cs[0]'(by omega)).fdiv 4)
 have n4:nms.length=4:=by rw [pm.length_eq,p2]
 have nnd:nms.Nodup:=pm.nodup_iff.mpr p1
 have npw:=iV st
 rw [hK]
 refine ap fun K2 hK2=>?_
 walk_at "rd"
 intro ta
 rw [hK2]
 refine ap fun K3 hK3=>?_
 simp only [vE]
 walk_at "rd"
 refine⟨by decide,by decide,fun i δ=>∃ ts x y,δ=[.dat (.lst (cs.map D.int)),.dat (.lst (nms.map D.str)),.own ta (.lst (ts.map tmD)),x,y]∧(ts.map (·.1)).Sublist (nms.take i)∧(∀ t∈ts,t.2≠0∧ib t.2≤30),⟨[],_,_,rfl,by simp,fun _ h=>(nomatch h)⟩,?_,?_⟩
 ·rintro i δ hi ⟨ts,x,y,rfl,hsb,hts⟩
  have hi:i < 4:=hi
  have hlt:ts.length≤i:=by
   have:=hsb.length_le
   rw [List.length_map,List.length_take] at this
   omega
  have hni:nms[i]?=some (nms[i]'(by omega)):=List.getElem?_eq_getElem (by omega)
  walk_at "rd"
  refine⟨_,(by rw [show (1:Int) + (i:Int)=((i + 1:Nat):Int) by omega];exact ca (i + 1) (by omega)),_,rfl,cb (i + 1) (by omega),fun r br=>?_⟩
  walk_at "rd"
  refine ite2 (fun hz=>?_) fun hz=>?_
  ·refine⟨_,atL (by omega),?_⟩
   refine⟨by rw [List.length_map];omega,ts++[(nms[i]'(by omega),r)],by rw [List.map_append];rfl,?_,fun t ht=>?_⟩
   ·rw [aG hni,List.map_append]
    exact hsb.append (List.Sublist.refl _)
   ·rcases List.mem_append.mp ht with ht | ht
    ·exact hts t ht
    ·rw [List.mem_singleton.mp ht];exact⟨hz,br⟩
  ·exact⟨ts,rfl,by rw [aG hni];exact hsb.trans (List.sublist_append_left ..),hts⟩
 ·rintro δ ⟨ts,x,y,rfl,hsb,hts⟩
  have hsb:(ts.map (·.1)).Sublist (nms.take 4):=hsb
  rw [List.take_of_length_le (by omega)] at hsb
  have hlt:ts.length≤4:=by
   have:=hsb.length_le
   rw [List.length_map] at this
   omega
  rw [hK3]
  walk_at "rd"
  refine⟨_,ca 0 (by decide),?_⟩
  walk_at "rd"
  have m0:=Int.fmod_nonneg_of_pos (cs[0]'(by omega)) (b:=2) (by decide)
  have m1:=Int.fmod_lt_of_pos (cs[0]'(by omega)) (b:=2) (by decide)
  have h2:(cs[0]'(by omega)).fmod 2=0∨(cs[0]'(by omega)).fmod 2=1:=by omega
  have fin:∀ k r,ib r≤30→R (rwD (k,ts,r)):=fun k r br=>q (k,ts,r) ⟨sT (npw.sublist hsb) (nnd.sublist hsb) (fun t h=>(hts t h).1),fun t h=>pm.mem_iff.mp (hsb.subset (List.mem_map.mpr ⟨t,h,rfl⟩)),fun t h=>(hts t h).2,br⟩
  refine⟨cnz (by decide),?_⟩
  rcases h2 with h2 | h2<;>rw [h2]
  ·refine⟨_,at0,?_⟩
   exact⟨_,ca 5 (by decide),_,rfl,cb 5 (by decide),fun r br=>fin .least r br⟩
  ·refine⟨_,at1,?_⟩
   exact⟨_,ca 5 (by decide),_,rfl,cb 5 (by decide),fun r br=>fin .more r br⟩
def q4 (p:Rw×Int):Rw×Int:=(p.1,p.2.fmod 4)
theorem zA {rows:List Rw} {cs:List Int}:zipD (rows.map rwD) (cs.map D.int)=(rows.zip cs).map fun p=>D.tup [rwD p.1,.int p.2]:=by
 unfold zipD
 rw [List.zipWith_map,List.zip,List.map_zipWith]
theorem qw {n:Str} {M:Nat}:∀ {l:List (Rw×Int)},(∀ p∈l,(cf p.1.2.1 n).natAbs≤M∧0≤p.2∧p.2≤3)→(cfs l n).natAbs≤3 * M * l.length
 | [],_=>by show (0:Int).natAbs≤_;exact Nat.zero_le _
 | p :: r,h=>by
  have ih:=qw (n:=n) (M:=M) (l:=r) fun q hq=>h q (List.mem_cons_of_mem _ hq)
  obtain ⟨h1,h2,h3⟩:=h p (List.mem_cons_self ..)
  have e:(p.2 * cf p.1.2.1 n).natAbs≤3 * M:=by
   rw [Int.natAbs_mul]
   exact Nat.mul_le_mul (by omega) h1
  show (p.2 * cf p.1.2.1 n + cfs r n).natAbs≤_
  rw [List.length_cons,Nat.mul_succ]
  omega
theorem rO {M:Nat}:∀ {l:List (Rw×Int)},(∀ p∈l,p.1.2.2.natAbs≤M∧0≤p.2∧p.2≤3)→(bds l).natAbs≤3 * M * l.length
 | [],_=>by show (0:Int).natAbs≤_;exact Nat.zero_le _
 | p :: r,h=>by
  have ih:=rO (M:=M) (l:=r) fun q hq=>h q (List.mem_cons_of_mem _ hq)
  obtain ⟨h1,h2,h3⟩:=h p (List.mem_cons_self ..)
  have e:(p.2 * p.1.2.2).natAbs≤3 * M:=by
   rw [Int.natAbs_mul]
   exact Nat.mul_le_mul (by omega) h1
  show (p.2 * p.1.2.2 + bds r).natAbs≤_
  rw [List.length_cons,Nat.mul_succ]
  omega
inductive cZ (ds:List D) (R:D→Prop):Prop
 | mk (rows:List Rw) (cs:List Int) (S:List Str) (hh:ds=[.lst (rows.map rwD),.lst (cs.map D.int)]∧rows.length≤5∧cs.length=7∧(∀ c∈cs,ib c≤1048600)∧S.length≤60∧(∀ r∈rows,Gr S 30 r)∧∀ r:Rw,Gr S 34 r→R (rwD r))
theorem fL:∀ ds R,cZ ds R→ds.length=2:=fun _ _ ⟨_,_,_,e,_⟩=>by rw [e];rfl
theorem f4 (c:Int):0≤c.fmod 4∧c.fmod 4≤3:=by
 have a0:=Int.fmod_nonneg_of_pos c (b:=4) (by decide)
 have a1:=Int.fmod_lt_of_pos c (b:=4) (by decide)
 omega
theorem aK:ax ["_law_rows_here","_law_cells","_law_sums","_law_bound","_law_sort","_law_row_here","_law_cell_here","_law_name","_law_weight","_law_terms"] ["_law_rows_here","_law_cells"] (ak s__law_turned):=⟨rfl,rfl,rfl,by decide +kernel,rfl,by decide +kernel,by decide +kernel⟩
theorem gZ (F:Fd K mg "_law_turned" s__law_turned ["_law_rows_here","_law_cells"]) (et:mg "zip"=none) (aQ:mg "sorted"=none) (aR:mg "tuple"=none):Cal P w K mg base 1 "_law_turned" ["_law_rows_here","_law_cells"] (spD K cZ):=by
 refine fn_D F aK fL fun fa cdv A outer s H E ds R hr h=>?_
 have hU:=hr.units
 refine⟨_,(ad (eK 2 aK.nd) (ad (aB 3 aK.nd ae) (ad (aB 4 aK.nd bm) (ad (fZ PassesOwn.never rfl (kG true true rfl et (ac (de_v 0) (ac (de_v 1) ag))) (b7 (n:=2) rfl (aF (am 5 aK.nd) (aF (am 6 aK.nd) bn))) (ad (dZ PassesOwn.never rfl (aw au (de_v 5) ae (fun _ _=>rfl)) (b7 (n:=2) rfl (aF (am 7 aK.nd) (aF (am 8 aK.nd) bn))) (af (dL 2 hU (aC ku (lx 2 hU (de_v 7) ae) (aC bB (aC eD (de_v 6) ae) (de_v 8))) (de_v 7)))) (ad (aB 3 aK.nd (aC ku (de_v 3) (aC bB (aC eD (de_v 6) ae) (aw au (de_v 5) ae (fun _ _=>rfl))))) (af (a7 (DW.dt (kn (aI (o_eq hU) (aw au (de_v 5) ae (fun _ _=>rfl)) bm (ar _)) (kn (aI o_gt (aC eD (de_v 6) ae) ae (ar _)) (jb (aI (o_eq hU) (aC eD (aC dU (de_v 6) ae) ae) ae (ar _)))))) (af (aB 4 aK.nd bm)) aH))))) (bJ 2 (ad (gl 9 aK.nd ["_law_name"] [(2,"_law_sums")] rfl rfl (by decide +kernel) rfl (by decide +kernel) (cB ⟨rfl,trivial⟩) (cF rfl) (bG ⟨⟨rfl,rfl,.inl rfl⟩,trivial⟩) (fY (aM (de rfl) rfl aQ c5 (ac (de_v 2) ag))) fun _ _ _ _ _=>⟨(am 0 (show List.Nodup (["_law_name","_law_sums"]:List Str) by decide +kernel)),(ft (aI (fQ hU) (cT hU (de_v 1) (de_v 0) (fun _ _=>rfl)) ae (ar _))),(bN (ac (de_v 0) (ac (cT hU (de_v 1) (de_v 0) (fun _ _=>rfl)) ag)))⟩) (af (ay (bN (ac (de_v 4) (ac (dH jG rfl aR dS (ac (de_v 9) ag)) (ac (aC ku (aC bC (de_v 3) (aC eD (aw au (de_v 1) ae (fun _ _=>rfl)) ae)) ae) ag)))))))))))),?_⟩
 obtain ⟨rows,cs,S,rfl,h5,h7,hcb,hS,hg,q⟩:=h
 have ca:∀ k:Nat,(h:k < 7)→atI (cs.map D.int) (k:Int)=some (.int (cs[k]'(by omega))):=fun k h=>atL (by omega)
 refine ap fun K1 hK1=>?_
 walk_at "rd"
 intro da
 rw [hK1]
 refine ap fun K2 hK2=>?_
 walk_at "rd"
 rw [hK2]
 refine ap fun K3 hK3=>?_
 walk_at "rd"
 rw [hK3]
 refine ap fun K4 hK4=>?_
 refine dX fun B N hB hN=>?_
 simp only [jH]
 walk_at "rd"
 rw [zA]
 have hl1:∀ p∈rows.zip cs,Gr S 30 p.1:=fun p hp=>hg _ (List.of_mem_zip hp).1
 have hl5:(rows.zip cs).length≤5:=by rw [List.length_zip];omega
 generalize rows.zip cs=l at *
 refine⟨fun i δ=>∃ ks k u v w z y,δ=[.dat (.lst (rows.map rwD)),.dat (.lst (cs.map D.int)),.own da (.dct ks (ks.map fun n=>.int (-(cfs ((l.take i).map q4) n)))),.dat (.int (-(bds ((l.take i).map q4)))),.dat (.str (kdS k)),u,v,w,z,y]∧ks.Nodup∧(∀ n∈ks,n∈S)∧∀ n,n∉ks→cfs ((l.take i).map q4) n=0,
  ⟨[],.least,_,_,_,_,_,rfl,List.nodup_nil,fun n h=>(nomatch h),fun n h=>rfl⟩,?_,?_⟩
 ·rintro i d δ hd ⟨ks,kd,u,v,w,z,y,rfl,nd,hs,h0⟩
  rw [List.getElem?_map] at hd
  cases hn:l[i]? with
  | none=>rw [hn] at hd;cases hd
  | some p =>
   rw [hn] at hd
   cases hd
   obtain ⟨⟨k,ts,b⟩,c⟩:=p
   have ok:=hl1 _ (List.mem_of_getElem? hn)
   have htk:(l.take (i + 1)).map q4=(l.take i).map q4++[((k,ts,b),c.fmod 4)]:=by rw [aG hn,List.map_append];rfl
   obtain ⟨c0,c3⟩:=f4 c
   have cbt:ib (c.fmod 4)≤64:=intBits_le_64 (by omega) (by omega)
   rw [hB]
   show jP _ _ (.tup [.tup [.str (kdS k),.tup (ts.map tmD),.int b],.int c]) _ _
   refine cK fun K5 hK5=>?_
   simp only [htk]
   generalize (l.take i).map q4=m at *
   simp only [ja]
   walk_at "rd"
   refine⟨fun j δ=>∃ ks z2 y2,δ=[.dat (.lst (rows.map rwD)),.dat (.lst (cs.map D.int)),.own da (.dct ks (ks.map fun n=>.int (-(cfs m n + c.fmod 4 * cf (ts.take j) n)))),.dat (.int (-(bds m))),.dat (.str (kdS kd)),.dat (.tup [.str (kdS k),.tup (ts.map tmD),.int b]),.dat (.int c),z2,y2,y]∧ks.Nodup∧(∀ n∈ks,n∈S)∧∀ n,n∉ks→cfs m n + c.fmod 4 * cf (ts.take j) n=0,
    ⟨ks,w,z,by simp only [List.take_zero,cf,Int.mul_zero,Int.add_zero],nd,hs,fun n hn=>by rw [h0 n hn,List.take_zero];show 0 + c.fmod 4 * 0=0;omega⟩,?_,?_⟩
   ·rintro j d δ hd ⟨ks,z2,y2,rfl,nd,hs,h0⟩
    obtain ⟨t,ht,rfl⟩:=b8 hd
    have htm:=List.mem_of_getElem? ht
    have hj:=aG ht
    walk_at "rd"
    rw [ju (F:=fun n=>-(cfs m n + c.fmod 4 * cf (ts.take j) n)) (fun hx=>by show -(_)=_;rw [h0 t.1 hx];rfl)]
    refine⟨cnz (by decide),mo2 cbt (ok.tb t htm),_,_,rfl,by have:=dD nd hs;omega,?_,fR nd,fun n hn=>?_,fun n hn=>?_⟩
    ·have e:∀ n,-(cfs m n + c.fmod 4 * cf (ts.take (j + 1)) n)=-(cfs m n + c.fmod 4 * cf (ts.take j) n) - c.fmod 4 * (if t.1=n then t.2 else 0):=fun n=>by
      rw [hj,ig,Int.mul_add]
      show -(_ + (_ + c.fmod 4 * ((if t.1=n then t.2 else 0) + 0)))=_
      rw [Int.add_zero];omega
     have:=lQ (ks:=ks) (x:=t.1) (f:=fun n=>D.int (-(cfs m n + c.fmod 4 * cf (ts.take j) n))) (g:=fun n=>D.int (-(cfs m n + c.fmod 4 * cf (ts.take (j + 1)) n))) (fun n hn=>by rw [e,if_neg (fun z=>hn z.symm),Int.mul_zero,Int.sub_zero])
     rw [← this,e,if_pos rfl]
    ·rcases cN.mp hn with h | h
     ·exact hs n h
     ·rw [h];exact ok.sub t htm
    ·rw [cN,not_or] at hn
     rw [hj,ig,Int.mul_add,← Int.add_assoc,h0 n hn.1]
     show 0 + c.fmod 4 * ((if t.1=n then t.2 else 0) + 0)=0
     rw [if_neg (fun z=>hn.2 z.symm)];omega
   ·rintro δ ⟨ks,z2,y2,rfl,nd,hs,h0⟩
    have e1:ts.take (ts.map tmD).length=ts:=by rw [List.length_map,List.take_length]
    rw [e1] at h0 ⊢
    rw [hK5]
    walk_at "rd"
    have e2:∀ n,cfs ((l.take (i + 1)).map q4) n=cfs m n + c.fmod 4 * cf ts n:=fun n=>by
     rw [htk,jp]
     show _ + (c.fmod 4 * cf ts n + 0)=_
     rw [Int.add_zero]
    have e3:-bds m - c.fmod 4 * b=-bds ((l.take (i + 1)).map q4):=by
     rw [htk,i6]
     show _=-(_ + (c.fmod 4 * b + 0))
     omega
    simp only [e2,e3]
    have fin:∀ kd',True∧True∧∃ x,kdS kd'=kdS x∧ks.Nodup∧(∀ n,n∈ks→n∈S)∧∀ n,¬ n∈ks→cfs m n + c.fmod 4 * cf ts n=0:=fun kd'=>⟨trivial,trivial,kd',rfl,nd,hs,h0⟩
    have f1:=(fin kd).2.2
    have f2:=(fin .more).2.2
    refine⟨cnz (by decide),mo2 cbt ok.bb,ite2 (fun _=>⟨cnz (by decide),ite2 (fun _=>⟨uF (by decide) (by decide +kernel),cnz (by decide),ite2 (fun _=>?_) fun _=>?_⟩) fun _=>?_⟩) fun _=>?_⟩
    ·exact⟨trivial,trivial,f2⟩
    ·exact⟨trivial,trivial,f1⟩
    ·exact⟨trivial,trivial,f1⟩
    ·exact⟨trivial,trivial,f1⟩
 ·rintro δ ⟨ks,kd,u,v,w,z,y,rfl,nd,hs,h0⟩
  rw [List.length_map,List.take_length] at h0 ⊢
  rw [hN,hK4]
  walk_at "rd"
  have hk:=dD nd hs
  have hbit:∀ {M:Nat} {x:Int},x.natAbs≤3 * 1073741823 * l.length + M→M≤1000→ib x≤34:=fun {M x} h1 h2=>intBits_le_iff.mpr (by
   rw [show (2:Nat) ^ 34=17179869184 by decide +kernel]
   have:3 * 1073741823 * l.length≤3 * 1073741823 * 5:=Nat.mul_le_mul_left _ hl5
   omega)
  have lt30:∀ {x:Int},ib x≤30→x.natAbs≤1073741823:=fun {x} h=>by
   have:=intBits_le_iff.mp h
   rw [show (2:Nat) ^ 30=1073741824 by decide +kernel] at this
   omega
  have q4m:∀ p∈l.map q4,∃ p'∈l,p=(p'.1,p'.2.fmod 4):=fun p hp=>by
   obtain ⟨p',h1,rfl⟩:=List.mem_map.mp hp
   exact⟨p',h1,rfl⟩
  have ca2:∀ n,(cfs (l.map q4) n).natAbs≤3 * 1073741823 * l.length:=fun n=>by
   have:=qw (n:=n) (M:=1073741823) (l:=l.map q4) fun p hp=>by
    obtain ⟨p',h1,rfl⟩:=q4m p hp
    obtain ⟨c0,c3⟩:=f4 p'.2
    exact⟨lt30 (rj (hl1 _ h1).is.nd (hl1 _ h1).tb),c0,c3⟩
   rwa [List.length_map] at this
  have cb2:(bds (l.map q4)).natAbs≤3 * 1073741823 * l.length:=by
   have:=rO (M:=1073741823) (l:=l.map q4) fun p hp=>by
    obtain ⟨p',h1,rfl⟩:=q4m p hp
    obtain ⟨c0,c3⟩:=f4 p'.2
    exact⟨lt30 (hl1 _ h1).bb,c0,c3⟩
   rwa [List.length_map] at this
  refine⟨by omega,fun ss' pm st=>?_⟩
  have hl':=pm.length_eq
  refine⟨by rw [List.length_map];omega,fun d=>match d with | .str n=>if -cfs (l.map q4) n≠0 then some (.tup [.str n,.int (-cfs (l.map q4) n)]) else none | _=>none,fun x hx=>?_,?_⟩
  ·obtain ⟨n,hn,rfl⟩:=List.mem_map.mp hx
   have hnk:n∈ks:=pm.mem_iff.mp hn
   walk_at "rd"
   refine⟨_,cv (fun n=>D.int (-cfs (l.map q4) n)) hnk,?_⟩
   walk_at "rd"
   refine ite2 (fun hz=>?_) fun hz=>?_
   ·exact⟨_,cv (fun n=>D.int (-cfs (l.map q4) n)) hnk,by rw [if_pos hz]⟩
   ·rw [if_neg hz]
  ·have e:(ss'.map D.str).filterMap (fun d=>match d with | .str n=>if -cfs (l.map q4) n≠0 then some (D.tup [.str n,.int (-cfs (l.map q4) n)]) else none | _=>none)=((ss'.filter fun n=>decide (-cfs (l.map q4) n≠0)).map fun n=>(n,-cfs (l.map q4) n)).map tmD:=by
    clear hl' pm st
    induction ss' with
    | nil=>rfl
    | cons n r ih =>
     rw [List.map_cons,List.filterMap_cons]
     simp only
     by_cases hz:-cfs (l.map q4) n≠0
     ·rw [if_pos hz,List.filter_cons_of_pos (by simpa using hz)]
      simp only [List.map_cons]
      rw [ih];rfl
     ·rw [if_neg hz,List.filter_cons_of_neg (by simpa using hz)]
      exact ih
   rw [e]
   have sm:dB (fun n=>-cfs (l.map q4) n) ((ss'.filter fun n=>decide (-cfs (l.map q4) n≠0)).map fun n=>(n,-cfs (l.map q4) n)):=dB.mk' (iV st) (pm.nodup_iff.mpr nd) fun n hn=>pm.mem_iff.mpr (Classical.byContradiction fun z=>hn (by rw [h0 n z];rfl))
   have sub:∀ t∈(ss'.filter fun n=>decide (-cfs (l.map q4) n≠0)).map (fun n=>(n,-cfs (l.map q4) n)),t.1∈S∧ib t.2≤34:=fun t ht=>by
    obtain ⟨n,hn,rfl⟩:=List.mem_map.mp ht
    exact⟨hs n (pm.mem_iff.mp (List.mem_filter.mp hn).1),hbit (M:=0) (by have:=ca2 n;show (-cfs (l.map q4) n).natAbs≤_;omega) (by decide)⟩
   generalize (ss'.filter fun n=>decide (-cfs (l.map q4) n≠0)).map (fun n=>(n,-cfs (l.map q4) n))=ts at *
   refine⟨_,ca 6 (by decide),?_⟩
   walk_at "rd"
   have m0:=Int.fmod_nonneg_of_pos (cs[6]'(by omega)) (b:=3) (by decide)
   have m1:=Int.fmod_lt_of_pos (cs[6]'(by omega)) (b:=3) (by decide)
   refine⟨cnz (by decide),q (kd,ts,_) ⟨?_,fun t ht=>(sub t ht).1,fun t ht=>(sub t ht).2,hbit (M:=10) (by show (-bds (l.map q4) + (cs[6]'(by omega)).fmod 3 - 1).natAbs≤_;omega) (by decide)⟩⟩
   rw [show cf ts=_ from funext sm.cf]
   exact sm
structure Grs (S:List Str) (rows:List Rw):Prop where
 nd:S.Nodup
 s4:S.length≤4
 r6:rows.length≤6
 gr:∀ r∈rows,Gr S 34 r
def leB (a b:Str):Bool:=!PySem.Spec.ltCps b.cps.toList a.cps.toList
theorem pe {a b:Str}:leB a b=true↔leS a b:=by unfold leB leS;simp
theorem zM (l:List Str):∃ s:List Str,s.Perm l∧s.Pairwise leS:=by
 refine⟨l.mergeSort leB,List.mergeSort_perm l leB,?_⟩
 have:=List.pairwise_mergeSort (le:=leB) (fun a b c h1 h2=>pe.mpr (eE (pe.mp h1) (pe.mp h2))) (fun a b=>by
  rcases pG a b with h | h
  ·rw [pe.mpr h];rfl
  ·rw [pe.mpr h,Bool.or_true]) l
 exact this.imp fun h=>pe.mp h
theorem Grs.fit {S:List Str} {rows:List Rw} (G:Grs S rows):∃ nm,Fit nm rows 64 4∧nm.length≤4∧∀ n∈nm,∃ r∈rows,n∈rwN r:=by
 classical
 obtain ⟨nm,pm,pw⟩:=zM (S.filter fun n=>decide (∃ r∈rows,n∈rwN r))
 have hm:∀ n,n∈nm↔n∈S∧∃ r∈rows,n∈rwN r:=fun n=>by rw [pm.mem_iff,List.mem_filter,decide_eq_true_iff]
 have h4:nm.length≤4:=by
  rw [pm.length_eq]
  exact Nat.le_trans (List.length_filter_le ..) G.s4
 refine⟨nm,⟨⟨pw,pm.nodup_iff.mpr (G.nd.filter _),fun r hr=>(G.gr r hr).is,fun r hr t ht=>(hm _).mpr ⟨(G.gr r hr).sub t ht,r,hr,List.mem_map.mpr ⟨t,ht,rfl⟩⟩⟩,⟨fun r hr t ht=>Nat.le_trans ((G.gr r hr).tb t ht) (by decide),fun r hr=>Nat.le_trans (G.gr r hr).bb (by decide)⟩,G.r6,by omega,by decide,by decide⟩,h4,fun n hn=>((hm n).mp hn).2⟩
theorem Gr.mono {S:List Str} {a b:Nat} {r:Rw} (h:a≤b) (g:Gr S a r):Gr S b r:=⟨g.is,g.sub,fun t ht=>Nat.le_trans (g.tb t ht) h,Nat.le_trans g.bb h⟩
inductive eP (ds:List D) (R:D→Prop):Prop
 | mk (ns:List Int) (hh:ds=[.fz (ns.map D.int)]∧ns.length≤63∧(∀ n∈ns,ib n≤1048576)∧∀ S rows,Grs S rows→R (.lst (rows.map rwD)))
theorem gS:∀ ds R,eP ds R→ds.length=1:=fun _ _ ⟨_,e,_⟩=>by rw [e];rfl
theorem Gr.grs {S:List Str} {rows:List Rw} (h1:S.Nodup) (h2:S.length≤4) (h3:rows.length≤6) (h:∀ r∈rows,Gr S 34 r):Grs S rows:=⟨h1,h2,h3,h⟩
theorem fd4 (X r:Int) (h0:0≤r) (h1:r < 2):(4 * X + r).fdiv 4=X:=by
 rw [Int.fdiv_eq_ediv_of_nonneg _ (by decide)]
 omega
theorem bM:ax ["_law_script","_law_rows_here","_law_names","_law_k","_law_sort"] ["_law_script"] (ak s__law_rows):=⟨rfl,rfl,rfl,by decide +kernel,rfl,by decide +kernel,by decide +kernel⟩
theorem jd (F:Fd K mg "_law_rows" s__law_rows ["_law_script"]) (bI:Cal P w K mg base 1 "_law_cell" ["_law_script","_law_k"] (spD K (eF))) (fH:Cal P w K mg base 2 "_law_row" ["_law_cells"] (spD K (fS))) (c7:Cal P w K mg base 1 "_law_turned" ["_law_rows_here","_law_cells"] (spD K (cZ))) (bX:mg "range"=none) (xN:mg "min"=none) (bx:mg "len"=none):Cal P w K mg base 3 "_law_rows" ["_law_script"] (spD K eP):=by
 refine fn_D F bM gS fun fa cdv A outer s H E ds R hr h=>?_
 have hU:=hr.units
 refine⟨_,(ad (ip 1 bM.nd ag) (ad (aB 2 bM.nd (aC bB ae (aC bC (av bI (rm hr) rfl (ac (de_v 0) (ac ae ag))) (aC bB ae (av bI (rm hr) rfl (ac (de_v 0) (ac ae ag))))))) (ad (l9 PassesOwn.never rfl rfl bX (ac (aC dU (aM (AF rfl) rfl xN AX (ac (aM iJ rfl bx fB (ac (de_v 0) ag)) (ac ae ag))) ae) ag) (am 3 bM.nd) (ad (aB 4 bM.nd (aC bC (de_v 2) (aC eD (aw au (de_v 0) (aC bB ae (de_v 3)) (fun _ _=>rfl)) ae))) (af (cw 1 (av fH (rm hr) rfl (ac (aC bC (uX (ac (de_v 4) ag)) (rP (de_v 0) (gM (aC bC (aC bB ae (de_v 3)) ae)) (gM (aC bC (aC bB ae (de_v 3)) ae)))) ag)))))) (ad (a7 (DW.dt (kn (aI o_gt (jw 1 rfl bx fB) ae (ar _)) (jb (aI (o_eq hU) (aC eD (av bI (rm hr) rfl (ac (de_v 0) (ac ae ag))) ae) ae (ar _))))) (af (vA 1 (zL 1 ae (fun _ _=>rfl)) (xx xf ae))) aH) (ad (a7 (aI o_gt (aC eD (av bI (rm hr) rfl (ac (de_v 0) (ac ae ag))) ae) ae (ar _)) (ad (yl 1 1 bM.nd mF (gM ae)) (af (cw 1 (xG 1 c7 (rm hr) rfl (dk ["_law_k"] [(0,"_law_script")] rfl rfl (by decide +kernel) rfl (by decide +kernel) (cB ⟨rfl,trivial⟩) (cF rfl) (bG ⟨⟨rfl,rfl,.inl rfl⟩,trivial⟩) (nT rfl bX (ac ae ag)) fun _ _ _ _ _=>⟨(am 0 (show List.Nodup (["_law_k","_law_script"]:List Str) by decide +kernel)),kR,(av bI (rm hr) rfl (ac (de_v 1) (ac (aC bC ae (de_v 0)) ag)))⟩))))) aH) (bJ 1 (af (ay (de_v 1))))))))),?_⟩
 obtain ⟨ns,rfl,h63,hb,q⟩:=h
 have cbt:∀ k,ib (cz ns k)≤1048576:=fun k=>qR hb k
 refine ap fun K1 hK1=>?_
 walk_at "rd"
 intro ra
 rw [hK1]
 refine ap fun K2 hK2=>?_
 walk_at "rd"
 refine⟨ns,44,rfl,by decide,ns,0,rfl,by decide,?_⟩
 walk_at "rd"
 refine⟨IntMulOk.of_left (by decide),IntMulOk.of_left (by decide),?_⟩
 have xb:ib (cz ns 44 + 7 * cz ns 0)≤1048590:=Nat.le_trans (intBits_add_le (cbt 44) (intBits_mul_le (m:=3) (by decide) (cbt 0))) (by decide)
 generalize cz ns 44 + 7 * cz ns 0=X at *
 rw [hK2]
 obtain ⟨p1,p2⟩:=qP X
 refine ap fun K3 hK3=>?_
 refine nF fun B N hB hN=>?_
 simp only [sG]
 walk_at "rd"
 rw [List.length_map]
 have hm0:=Int.fdiv_nonneg (a:=min (ns.length:Int) 36) (b:=6) (by omega) (by decide)
 have hm1:6 * (min (ns.length:Int) 36).fdiv 6≤min (ns.length:Int) 36:=by
  have:=Int.fmod_def (min (ns.length:Int) 36) 6
  have h2:=Int.fmod_nonneg_of_pos (min (ns.length:Int) 36) (b:=6) (by decide)
  omega
 generalize (min (ns.length:Int) 36).fdiv 6=m at hm0 hm1 ⊢
 refine⟨uF (by decide) (by decide +kernel),by omega,by omega,fun i δ=>∃ (rows:List Rw) (x y:Sl),δ=[.dat (.fz (ns.map D.int)),.own ra (.lst (rows.map rwD)),.dat (.int (4 * X)),x,y]∧rows.length=i∧∀ r∈rows,Gr (pk4 X) 30 r,⟨[],_,_,rfl,rfl,fun _ h=>(nomatch h)⟩,?_,?_⟩
 ·rintro i δ hi ⟨rows,x,y,rfl,hlr,hrs⟩
  rw [hB]
  show iT _ _ _ _
  refine cK fun K4 hK4=>?_
  walk_at "rd"
  have gi:atI (ns.map D.int) (6 * (i:Int))=some (.int (ns[6 * i]'(by omega))):=by rw [show (6:Int) * (i:Int)=((6 * i:Nat):Int) by omega];exact wv (by omega)
  refine⟨IntMulOk.of_left (by decide),_,gi,?_⟩
  walk_at "rd"
  refine⟨cnz (by decide),?_⟩
  have f0:=Int.fmod_nonneg_of_pos (ns[6 * i]'(by omega)) (b:=2) (by decide)
  have f1:=Int.fmod_lt_of_pos (ns[6 * i]'(by omega)) (b:=2) (by decide)
  generalize (ns[6 * i]'(by omega)).fmod 2=st at *
  rw [hK4]
  walk_at "rd"
  have hc:cut (ns.map D.int) (some (6 * (i:Int) + 1)) (some (6 * (i:Int) + 6))=(cut ns (some (6 * (i:Int) + 1)) (some (6 * (i:Int) + 6))).map D.int:=xM ..
  have hcl:(cut ns (some (6 * (i:Int) + 1)) (some (6 * (i:Int) + 6))).length=5:=by
   rw [show (6 * (i:Int) + 1)=((6 * i + 1:Nat):Int) by omega,show (6 * (i:Int) + 6)=((6 * i + 6:Nat):Int) by omega]
   unfold cut
   rw [List.length_take,List.length_drop,HT.sIx_nat,HT.sIx_nat]
   omega
  rw [hc]
  refine⟨IntMulOk.of_left (by decide),IntMulOk.of_left (by decide),by rw [List.length_map];omega,(4 * X + st) :: cut ns (some (6 * (i:Int) + 1)) (some (6 * (i:Int) + 6)),rfl,by rw [List.length_cons,hcl],fun c hc=>?_,fun r ok=>?_⟩
  ·rcases List.mem_cons.mp hc with rfl | hc
   ·exact Nat.le_trans (intBits_add_le (intBits_mul_le (m:=3) (by decide) xb) (sm64 f0 (by omega))) (by decide)
   ·exact Nat.le_trans (hb _ (xy hc)) (by decide)
  ·have ok:Gr (pk4 ((4 * X + st).fdiv 4)) 30 r:=ok
   rw [fd4 X st f0 f1] at ok
   refine⟨by rw [List.length_map];omega,rows++[r],by rw [List.map_append];rfl,by rw [List.length_append,List.length_singleton,hlr],fun r' hr'=>?_⟩
   rcases List.mem_append.mp hr' with h | h
   ·exact hrs r' h
   ·rw [List.mem_singleton.mp h];exact ok
 ·rintro δ ⟨rows,x,y,rfl,hlr,hrs⟩
  have hl6:rows.length≤6:=by omega
  rw [hN,hK3]
  refine ap fun K5 hK5=>?_
  have rest:∀ rows:List Rw,rows.length≤6→(∀ r∈rows,Gr (pk4 X) 30 r)→K5 [.dat (.fz (ns.map D.int)),.own ra (.lst (rows.map rwD)),.dat (.int (4 * X)),x,y]:=?_
  ·exact rest rows hl6 hrs
  clear hrs hl6 hlr rows
  intro rows hl6 hrs
  rw [hK5]
  refine ap fun K6 hK6=>?_
  have rest:∀ rows:List Rw,rows.length≤6→(∀ r∈rows,Gr (pk4 X) 30 r)→K6 [.dat (.fz (ns.map D.int)),.own ra (.lst (rows.map rwD)),.dat (.int (4 * X)),x,y]:=?_
  ·walk_at "rd"
   refine ite2 (fun h1=>?_) fun _=>rest rows hl6 hrs
   refine⟨ns,45,rfl,by decide,?_⟩
   walk_at "rd"
   refine⟨cnz (by decide),ite2 (fun _=>?_) fun _=>rest rows hl6 hrs⟩
   rw [List.length_map] at h1
   refine⟨_,atL (k:=0) (by omega),rows.length - 1,?_,?_⟩
   ·rw [List.length_map]
    unfold ixN
    rw [if_neg (by decide),if_pos (by omega)]
    congr 1
    omega
   ·have e:(rows.map rwD).set (rows.length - 1) (rwD (rows[0]'(by omega)))=(rows.set (rows.length - 1) (rows[0]'(by omega))).map rwD:=List.map_set.symm
    rw [e]
    refine rest _ (by rw [List.length_set];exact hl6) fun r hr=>?_
    rcases List.mem_or_eq_of_mem_set hr with h | h
    ·exact hrs r h
    ·rw [h];exact hrs _ (List.getElem_mem _)
  clear hrs hl6 rows
  intro rows hl6 hrs
  rw [hK6]
  have fin:∀ rows:List Rw,rows.length≤6→(∀ r∈rows,Gr (pk4 X) 34 r)→R (.lst (rows.map rwD)):=fun rows h1 h2=>q _ rows (Gr.grs p1 (by omega) h1 h2)
  refine ap fun K7 hK7=>?_
  walk_at "rd"
  refine⟨ns,36,rfl,by decide,?_⟩
  walk_at "rd"
  refine⟨cnz (by decide),ite2 (fun _=>fun c=>?_) fun _=>?_⟩
  ·refine⟨by decide,by decide,by decide,fun d=>match d with | .int k=>some (.int (cz ns (37 + k))) | _=>none,fun x hx=>?_,?_⟩
   ·obtain ⟨k,hk,rfl⟩:=List.mem_map.mp hx
    exact⟨ns,_,rfl,by omega,rfl⟩
   have ew:((List.range (Int.toNat 7)).map fun (i:Nat)=>D.int (i:Int)).filterMap (fun d=>match d with | .int k=>some (D.int (cz ns (37 + k))) | _=>none)=((List.range 7).map fun (i:Nat)=>cz ns (37 + i)).map D.int:=by
    rw [List.map_map]
    exact bO _ _ _ _ fun x _=>rfl
   rw [ew,show (5:Int)=((5:Nat):Int) from rfl,zm,← List.map_take]
   refine⟨rows.take 5,(List.range 7).map fun (i:Nat)=>cz ns (37 + i),pk4 X,rfl,by rw [List.length_take];omega,by rw [List.length_map,List.length_range],fun c hc=>?_,by omega,fun r hr=>hrs r (List.mem_of_mem_take hr),fun r ok=>?_⟩
   ·obtain ⟨i,_,rfl⟩:=List.mem_map.mp hc
    exact Nat.le_trans (cbt _) (by decide)
   ·refine⟨BF r,by rw [List.length_map,List.length_take];omega,?_⟩
    rw [hK7]
    walk_at "rd"
    have:=fin (rows.take 5++[r]) (by rw [List.length_append,List.length_take,List.length_singleton];omega) (fun r' hr'=>by
     rcases List.mem_append.mp hr' with h | h
     ·exact (hrs r' (List.mem_of_mem_take h)).mono (by decide)
     ·rw [List.mem_singleton.mp h];exact ok)
    rw [List.map_append] at this
    exact this
  ·rw [hK7]
   walk_at "rd"
   exact fin rows hl6 fun r hr=>(hrs r hr).mono (by decide)
inductive bY (ds:List D) (R:D→Prop):Prop
 | mk (rows:List Rw) (nm:List Str) (ps:List (Int×Int)) (hh:ds=[.lst (rows.map rwD),.fd nm (ps.map frD)]∧Fit nm rows 64 4∧(∀ n∈nm,∃ r∈rows,n∈rwN r)∧Meets nm rows ps∧R (.bl true))
theorem dI:∀ ds R,bY ds R→ds.length=2:=fun _ _ ⟨_,_,_,e,_⟩=>by rw [e];rfl
theorem nU:∀ w:List Str,D.nds (w.map D.str)=true
 | []=>rfl
 | a :: w=>by rw [List.map_cons];simp only [D.nds,nU w];rfl
theorem nY:∀ w:List Str,D.dps (w.map D.str)≤60
 | []=>by decide
 | a :: w=>by rw [List.map_cons];have:=nY w;simp only [D.dps,D.dp];omega
theorem vB {ks:List Str} {i:Nat} {d:D} (h:(ks.map D.str)[i]?=some d):∃ n,ks[i]?=some n∧d=.str n:=fc h
theorem aN:ax ["_law_rows_here","_law_point","_law_names","_law_row_here","_law_name","_law_weight"] ["_law_rows_here","_law_point"] (ak s__law_point_good):=⟨rfl,rfl,rfl,by decide +kernel,rfl,by decide +kernel,by decide +kernel⟩
theorem eS (F:Fd K mg "_law_point_good" s__law_point_good ["_law_rows_here","_law_point"]) (bR:Cal P w K mg base 2 "_law_is_fraction" ["_law_found"] (spD K (bS))) (dl:Cal P w K mg base 2 "_law_row_so" ["_law_row_here","_law_point"] (spD K (dm))) (aJ:mg "isinstance"=none) (fF:mg "dict"=none) (aQ:mg "sorted"=none) (bx:mg "len"=none):Cal P w K mg base 3 "_law_point_good" ["_law_rows_here","_law_point"] (spD K bY):=by
 refine fn_D F aN dI fun fa cdv A outer s H E ds R hr h=>?_
 have hU:=hr.units
 refine⟨_,(ad (a7 (dM (cP (iL wQ rfl aJ rfl fF uU (de_v 1)))) (af (ay eg)) aH) (ad (eK 2 aN.nd) (ad (cU PassesOwn.never rfl (de_v 0) (am 3 aN.nd) (af (dZ PassesOwn.never rfl (aw au (de_v 3) ae (fun _ _=>rfl)) (b7 (n:=2) rfl (aF (am 4 aN.nd) (aF (am 5 aN.nd) bn))) (af (dL 2 hU eg (de_v 4)))))) (eZ 2 (ad (a7 (aI (fQ hU) (aM (de rfl) rfl aQ c5 (ac (de_v 1) ag)) (aM (de rfl) rfl aQ c5 (ac (de_v 2) ag)) (ar _)) (af (ay eg)) aH) (ad (fZ PassesOwn.never rfl (vj (de_v 1)) (am 4 aN.nd) (af (a7 (dM (cP (av bR (rm hr) rfl (ac (cT hU (de_v 1) (de_v 4) (fun _ _=>rfl)) ag)))) (af (ay eg)) aH))) (af (ay (bT (o_eq hU) (aM iJ rfl bx fB (ac (dk ["_law_row_here"] [(1,"_law_point")] rfl rfl (by decide +kernel) rfl (by decide +kernel) (cB ⟨rfl,trivial⟩) (cF rfl) (bG ⟨⟨rfl,rfl,.inl rfl⟩,trivial⟩) (fY (de_v 0)) fun _ _ _ _ _=>⟨(am 0 (show List.Nodup (["_law_row_here","_law_point"]:List Str) by decide +kernel)),(ft (dM (cP (av dl (rm hr) rfl (ac (de_v 0) (ac (de_v 1) ag)))))),(de_v 0)⟩) ag)) ae (ar _)))))))))),?_⟩
 obtain ⟨rows,nm,ps,rfl,F,hnm,M,q⟩:=h
 refine ap fun K1 hK1=>?_
 walk_at "rd"
 rw [hK1]
 refine ap fun K2 hK2=>?_
 walk_at "rd"
 intro na
 rw [hK2]
 refine ap fun K3 hK3=>?_
 refine dg fun Fb N hF hN=>?_
 simp only [f6]
 walk_at "rd"
 refine⟨fun i δ=>∃ ks x y z,δ=[.dat (.lst (rows.map rwD)),.dat (.fd nm (ps.map frD)),.own na (.dct ks (c6 ks.length)),x,y,z]∧ks.Nodup∧∀ n,n∈ks↔∃ r∈rows.take i,n∈rwN r,⟨[],_,_,_,rfl,List.nodup_nil,fun n=>by simp⟩,?_,?_⟩
 ·rintro i d δ hd ⟨ks,x,y,z,rfl,nd,hk⟩
  obtain ⟨r,hr,rfl⟩:=nP hd
  have hm:=List.mem_of_getElem? hr
  rw [hF,show rwD r=.tup [.str (kdS r.1),.tup (r.2.1.map tmD),.int r.2.2] from rfl]
  simp only [ja]
  walk_at "rd"
  refine⟨fun j δ=>∃ ks y z,δ=[.dat (.lst (rows.map rwD)),.dat (.fd nm (ps.map frD)),.own na (.dct ks (c6 ks.length)),.dat (.tup [.str (kdS r.1),.tup (r.2.1.map tmD),.int r.2.2]),y,z]∧ks.Nodup∧∀ n,n∈ks↔(∃ r∈rows.take i,n∈rwN r)∨n∈(rwN r).take j,⟨ks,_,_,rfl,nd,fun n=>by rw [hk n];simp⟩,?_,?_⟩
  ·rintro j d δ hd ⟨ks,y,z,rfl,nd,hk⟩
   obtain ⟨t,ht,rfl⟩:=b8 hd
   have htn:(rwN r)[j]?=some t.1:=by unfold rwN;rw [List.getElem?_map,ht];rfl
   walk_at "rd"
   have hsm:∀ n∈ks,n∈nm:=fun n hn=>by
    rcases (hk n).mp hn with ⟨r',hr',h⟩ | h
    ·obtain ⟨t,ht,rfl⟩:=List.mem_map.mp h
     exact F.H.sub r' (List.mem_of_mem_take hr') t ht
    ·obtain ⟨t,ht,rfl⟩:=List.mem_map.mp (List.mem_of_mem_take h)
     exact F.H.sub r hm t ht
   have n6:=F.n6
   refine⟨by have:=dD nd hsm;omega,?_⟩
   rw [kD]
   refine⟨rfl,fR nd,fun m=>?_⟩
   rw [cN,hk m,aG htn,List.mem_append,List.mem_singleton,or_assoc]
  ·rintro δ ⟨ks,y,z,rfl,nd,hk⟩
   have e1:(rwN r).take (r.2.1.map tmD).length=rwN r:=by unfold rwN;rw [List.take_of_length_le (by simp)]
   rw [e1] at hk
   walk_at "rd"
   refine⟨nd,fun n=>?_⟩
   rw [hk n,aG hr]
   constructor
   ·rintro (⟨r',h1,h2⟩ | h)
    ·exact⟨r',List.mem_append_left _ h1,h2⟩
    ·exact⟨r,List.mem_append_right _ (List.mem_singleton.mpr rfl),h⟩
   ·rintro ⟨r',h1,h2⟩
    rcases List.mem_append.mp h1 with h1 | h1
    ·exact .inl ⟨r',h1,h2⟩
    ·rw [List.mem_singleton.mp h1] at h2
     exact .inr h2
 ·rintro δ ⟨ks,x,y,z,rfl,nd,hk⟩
  rw [List.length_map,List.take_length] at hk
  have hks:∀ n,n∈ks↔n∈nm:=fun n=>by
   rw [hk n]
   constructor
   ·rintro ⟨r,hr,hn⟩
    obtain ⟨t,ht,rfl⟩:=List.mem_map.mp hn
    exact F.H.sub r hr t ht
   ·exact fun h=>hnm n h
  have hl:=dD nd fun n hn=>(hks n).mp hn
  have n6:=F.n6
  rw [hN,hK3]
  refine ap fun K4 hK4=>?_
  walk_at "rd"
  rw [hK4]
  show ∃ a ks' ds,_
  refine⟨na,ks,c6 ks.length,rfl,?_⟩
  refine ap fun K5 hK5=>?_
  walk_at "rd"
  refine⟨by omega,fun s1 pm1 st1=>⟨by omega,fun s2 pm2 st2=>?_⟩⟩
  have es:s1=s2:=tI st1 st2 (pm1.nodup_iff.mpr F.H.nd) (pm2.nodup_iff.mpr nd) fun n=>by rw [pm1.mem_iff,pm2.mem_iff,hks n]
  refine⟨by rw [es],nU s1,nY s1,?_⟩
  rw [hK5]
  refine ap fun K6 hK6=>?_
  refine dX fun Fb2 N2 hF2 hN2=>?_
  simp only [jH]
  walk_at "rd"
  refine⟨nm,ps.map frD,rfl,fun i δ=>∃ y,δ=[.dat (.lst (rows.map rwD)),.dat (.fd nm (ps.map frD)),.dat (.fd ks (c6 ks.length)),x,y,z],⟨_,rfl⟩,?_,?_⟩
  ·rintro i d δ hd ⟨y,rfl⟩
   obtain ⟨n,hn,rfl⟩:=vB hd
   have hnn:=List.mem_of_getElem? hn
   rw [hF2]
   walk_at "rd"
   refine⟨_,M.P.D hnn,(pT nm ps n,pB nm ps n),rfl,M.P.Low hnn,?_⟩
   walk_at "rd"
   exact⟨_,rfl⟩
  ·rintro δ ⟨y,rfl⟩
   rw [hN2,hK6]
   walk_at "rd"
   have m6:=F.m6
   refine⟨by rw [List.length_map];omega,fun _=>none,fun x hx=>?_,?_⟩
   ·obtain ⟨r,hr,rfl⟩:=List.mem_map.mp hx
    have sm:=F.H.sum r hr
    have hin:∀ t∈r.2.1,t.1∈nm:=F.H.sub r hr
    refine⟨r,nm,ps,rfl,sm.nd,?_,Nat.le_trans (F.hB.bd r hr) (by decide),fun t ht=>⟨hin t ht,Nat.le_trans (F.hB.tm r hr t ht) (by decide)⟩,⟨M.P.mono (by decide),Nat.le_trans M.κ (by decide)⟩,?_⟩
    ·have:=dD sm.nd fun n hn=>by
      obtain ⟨t,ht,rfl⟩:=List.mem_map.mp hn
      exact hin t ht
     rw [List.length_map] at this
     omega
    ·rw [(wD fun t ht=>M.P.pos (hin t ht)).mpr (M.so r hr)]
     exact⟨true,rfl,ifn (by decide) rfl⟩
   ·have e:(rows.map rwD).filterMap (fun _=>(none:Option D))=[]:=by
     rw [List.filterMap_eq_nil_iff]
     exact fun _ _=>rfl
    rw [e]
    exact q
def Sh (rows:List Rw) (w:List Int):Prop:=w.length=rows.length∧(∀ a∈w,0≤a)∧(∀ n,cfs (rows.zip w) n=0)∧(0 < bds (rows.zip w)∨(bds (rows.zip w)=0∧stc (rows.zip w)=true))
theorem wL.sh {rows:List Rw} {w:List Int} (h:wL rows w):Sh rows w:=⟨h.wt.len,h.wt.nn,h.no,h.bd⟩
noncomputable def shB (rows:List Rw) (w:List Int):Bool:=@decide (Sh rows w) (Classical.propDecidable _)
theorem me {rows:List Rw} {w:List Int}:shB rows w=true↔Sh rows w:=@decide_eq_true_iff _ (Classical.propDecidable _)
inductive bF (ds:List D) (R:D→Prop):Prop
 | mk (rows:List Rw) (S:List Str) (w:List Int) (hh:ds=[.lst (rows.map rwD),.tup (w.map D.int)]∧S.length≤60∧(∀ r∈rows,RwOk S 60000 r)∧(∀ a∈w,ib a≤60000)∧R (.bl (shB rows w)))
theorem du:∀ ds R,bF ds R→ds.length=2:=fun _ _ ⟨_,_,_,e,_⟩=>by rw [e];rfl
theorem aA:ax ["_law_rows_here","_law_weights","_law_sums","_law_bound","_law_strict","_law_row_here","_law_many","_law_name","_law_weight"] ["_law_rows_here","_law_weights"] (ak s__law_weights_good):=⟨rfl,rfl,rfl,by decide +kernel,rfl,by decide +kernel,by decide +kernel⟩
theorem dF (F:Fd K mg "_law_weights_good" s__law_weights_good ["_law_rows_here","_law_weights"]) (bf:Cal P w K mg base 1 "_law_whole" ["_law_found"] (spD K (cL))) (bx:mg "len"=none) (aJ:mg "isinstance"=none) (aR:mg "tuple"=none) (et:mg "zip"=none):Cal P w K mg base 2 "_law_weights_good" ["_law_rows_here","_law_weights"] (spD K bF):=by
 refine fn_D F aA du fun fa cdv A outer s H E ds R hr h=>?_
 have hU:=hr.units
 refine⟨_,(ad (a7 (DW.dt (i7 (dM (cP (iL jx rfl aJ rfl aR dS (de_v 1)))) (iY (aI (fQ hU) (aM iJ rfl bx fB (ac (de_v 1) ag)) (aM iJ rfl bx fB (ac (de_v 0) ag)) (ar _))))) (af (ay eg)) aH) (ad (eK 2 aA.nd) (ad (aB 3 aA.nd ae) (ad (aB 4 aA.nd eg) (ad (fZ PassesOwn.never rfl (kG true false rfl et (ac (de_v 0) (ac (de_v 1) ag))) (b7 (n:=2) rfl (aF (am 5 aA.nd) (aF (am 6 aA.nd) bn))) (ad (a7 (DW.dt (i7 (dM (cP (av bf (rm hr) rfl (ac (de_v 6) ag)))) (iY (aI o_lt (de_v 6) ae (ar _))))) (af (ay eg)) aH) (ad (dZ PassesOwn.never rfl (aw au (de_v 5) ae (fun _ _=>rfl)) (b7 (n:=2) rfl (aF (am 7 aA.nd) (aF (am 8 aA.nd) bn))) (af (dL 2 hU (aC bC (lx 2 hU (de_v 7) ae) (aC bB (de_v 6) (de_v 8))) (de_v 7)))) (ad (aB 3 aA.nd (aC bC (de_v 3) (aC bB (de_v 6) (aw au (de_v 5) ae (fun _ _=>rfl))))) (af (aB 4 aA.nd (rT (de_v 4) (dw (io (bT (o_eq hU) (aw au (de_v 5) ae (fun _ _=>rfl)) bm (ar _)) (dw (bT o_gt (de_v 6) ae (ar _)))))))))))) (eZ 2 (ad (a7 (aI o_gt (aM iJ rfl bx fB (ac (dk ["_law_name"] [(2,"_law_sums")] rfl rfl (by decide +kernel) rfl (by decide +kernel) (cB ⟨rfl,trivial⟩) (cF rfl) (bG ⟨⟨rfl,rfl,.inl rfl⟩,trivial⟩) (vj (de_v 2)) fun _ _ _ _ _=>⟨(am 0 (show List.Nodup (["_law_name","_law_sums"]:List Str) by decide +kernel)),(ft (aI (fQ hU) (cT hU (de_v 1) (de_v 0) (fun _ _=>rfl)) ae (ar _))),(de_v 0)⟩) ag)) ae (ar _)) (af (ay eg)) aH) (af (ay (rT (bT o_gt (de_v 3) ae (ar _)) (dw (io (bT (o_eq hU) (de_v 3) ae (ar _)) (dw (de_v 4)))))))))))))),?_⟩
 obtain ⟨rows,S,w,rfl,hS,hr,hw,q⟩:=h
 refine ap fun K1 hK1=>?_
 walk_at "rd"
 rw [List.length_map,List.length_map]
 refine ite2 (fun hl=>?_) fun hl=>?_
 ·have e:shB rows w=false:=Bool.eq_false_iff.mpr fun z=>hl (by rw [(me.mp z).1])
  rw [e] at q
  exact q
 have hl:w.length=rows.length:=by have:=Decidable.not_not.mp hl;omega
 rw [hK1]
 refine ap fun K2 hK2=>?_
 walk_at "rd"
 intro da
 rw [hK2]
 refine ap fun K3 hK3=>?_
 walk_at "rd"
 rw [hK3]
 refine ap fun K4 hK4=>?_
 walk_at "rd"
 rw [hK4]
 refine ap fun K5 hK5=>?_
 refine dX fun B N hB hN=>?_
 simp only [jH]
 walk_at "rd"
 rw [ng]
 have hl1:∀ p∈rows.zip w,RwOk S 60000 p.1∧ib p.2≤60000:=fun p hp=>⟨hr _ (List.of_mem_zip hp).1,hw _ (List.of_mem_zip hp).2⟩
 have hlw:∀ p∈rows.zip w,p.2∈w:=fun p hp=>(List.of_mem_zip hp).2
 have hww:∀ a∈w,∃ p∈rows.zip w,p.2=a:=fun a ha=>by
  obtain ⟨i,hi⟩:=List.getElem?_of_mem ha
  have hiw:=(List.getElem?_eq_some_iff.mp hi).1
  refine⟨(rows[i]'(by omega),a),List.mem_of_getElem? (i:=i) ?_,rfl⟩
  rw [List.getElem?_zip_eq_some]
  exact⟨List.getElem?_eq_getElem (by omega),hi⟩
 have dec:∀ b:Bool,(b=true↔Sh rows w)→R (.bl b):=fun b hb=>by
  rw [Bool.eq_iff_iff.mpr (hb.trans me.symm)]
  exact q
 have shl:Sh rows w↔(∀ p∈rows.zip w,0≤p.2)∧(∀ n,cfs (rows.zip w) n=0)∧(0 < bds (rows.zip w)∨(bds (rows.zip w)=0∧stc (rows.zip w)=true)):=by
  constructor
  ·rintro ⟨_,h1,h2,h3⟩
   exact⟨fun p hp=>h1 _ (hlw p hp),h2,h3⟩
  ·rintro ⟨h1,h2,h3⟩
   exact⟨hl,fun a ha=>by obtain ⟨p,hp,rfl⟩:=hww a ha;exact h1 p hp,h2,h3⟩
 rw [shl] at dec
 clear q shl hww hlw
 generalize rows.zip w=l at *
 refine⟨fun i δ=>∃ ks u v w' z,δ=[.dat (.lst (rows.map rwD)),.dat (.tup (w.map D.int)),.own da (.dct ks (ks.map fun n=>.int (cfs (l.take i) n))),.dat (.int (bds (l.take i))),.dat (.bl (stc (l.take i))),u,v,w',z]∧ks.Nodup∧(∀ n∈ks,n∈S)∧(∀ n,n∉ks→cfs (l.take i) n=0)∧∀ p∈l.take i,0≤p.2,
  ⟨[],_,_,_,_,rfl,List.nodup_nil,(fun n h=>nomatch h),(fun n h=>rfl),fun p hp=>by simp at hp⟩,?_,?_⟩
 ·rintro i d δ hd ⟨ks,u,v,w',z,rfl,nd,hs,h0,hp0⟩
  rw [List.getElem?_map] at hd
  cases hn:l[i]? with
  | none=>rw [hn] at hd;cases hd
  | some p =>
   rw [hn] at hd
   cases hd
   obtain ⟨⟨k,ts,b⟩,c⟩:=p
   have hpm:=List.mem_of_getElem? hn
   obtain ⟨ok,bc⟩:=hl1 _ hpm
   have htk:=aG hn
   rw [hB]
   show jP _ _ (.tup [.tup [.str (kdS k),.tup (ts.map tmD),.int b],.int c]) _ _
   refine cK fun K6 hK6=>?_
   walk_at "rd"
   refine⟨c,rfl,true,rfl,ifn (by decide) (ite2 (fun hc=>?_) fun hc=>?_)⟩
   ·exact dec false ⟨(fun z=>nomatch z),fun z=>absurd (z.1 _ hpm) (by show ¬ 0≤c;omega)⟩
   rw [hK6]
   refine ap fun K7 hK7=>?_
   simp only [ja]
   walk_at "rd"
   refine⟨fun j δ=>∃ ks w' z,δ=[.dat (.lst (rows.map rwD)),.dat (.tup (w.map D.int)),.own da (.dct ks (ks.map fun n=>.int (cfs (l.take i) n + c * cf (ts.take j) n))),.dat (.int (bds (l.take i))),.dat (.bl (stc (l.take i))),.dat (.tup [.str (kdS k),.tup (ts.map tmD),.int b]),.dat (.int c),w',z]∧ks.Nodup∧(∀ n∈ks,n∈S)∧∀ n,n∉ks→cfs (l.take i) n + c * cf (ts.take j) n=0,
    ⟨ks,w',z,by simp only [List.take_zero,cf,Int.mul_zero,Int.add_zero],nd,hs,fun n hn=>by rw [h0 n hn,List.take_zero];show 0 + c * 0=0;omega⟩,?_,?_⟩
   ·rintro j d δ hd ⟨ks,w',z,rfl,nd,hs,h0⟩
    obtain ⟨t,ht,rfl⟩:=b8 hd
    have htm:=List.mem_of_getElem? ht
    have hj:=aG ht
    walk_at "rd"
    rw [ju (h0 t.1)]
    refine⟨mo2 bc (ok.bw t htm),by have:=dD nd hs;omega,?_,fR nd,fun n hn=>?_,fun n hn=>?_⟩
    ·have e:∀ n,cfs (l.take i) n + c * cf (ts.take (j + 1)) n=(cfs (l.take i) n + c * cf (ts.take j) n) + c * (if t.1=n then t.2 else 0):=fun n=>by
      rw [hj,ig,Int.mul_add]
      show _ + (_ + c * ((if t.1=n then t.2 else 0) + 0))=_
      rw [Int.add_zero,Int.add_assoc]
     have:=lQ (ks:=ks) (x:=t.1) (f:=fun n=>D.int (cfs (l.take i) n + c * cf (ts.take j) n)) (g:=fun n=>D.int (cfs (l.take i) n + c * cf (ts.take (j + 1)) n)) (fun n hn=>by rw [e,if_neg (fun z=>hn z.symm),Int.mul_zero,Int.add_zero])
     rw [← this,e,if_pos rfl]
    ·rcases cN.mp hn with h | h
     ·exact hs n h
     ·rw [h];exact ok.sub t htm
    ·rw [cN,not_or] at hn
     rw [hj,ig,Int.mul_add,← Int.add_assoc,h0 n hn.1]
     show 0 + c * ((if t.1=n then t.2 else 0) + 0)=0
     rw [if_neg (fun z=>hn.2 z.symm)];omega
   ·rintro δ ⟨ks,w',z,rfl,nd,hs,h0⟩
    have e1:ts.take (ts.map tmD).length=ts:=by rw [List.length_map,List.take_length]
    rw [e1] at h0 ⊢
    rw [hK7]
    walk_at "rd"
    have e2:∀ n,cfs (l.take (i + 1)) n=cfs (l.take i) n + c * cf ts n:=fun n=>by
     rw [htk,jp]
     show _ + (c * cf ts n + 0)=_
     rw [Int.add_zero]
    have e3:bds (l.take (i + 1))=bds (l.take i) + c * b:=by
     rw [htk,i6]
     show _=_ + c * b
     show _ + (c * b + 0)=_
     rw [Int.add_zero]
    have e4:stc (l.take (i + 1))=(stc (l.take i) || (isM k && decide (0 < c))):=by rw [htk,qk,sC]
    have e5:∀ p∈l.take (i + 1),0≤p.2:=fun p hp=>by
     rw [htk] at hp
     rcases List.mem_append.mp hp with h | h
     ·exact hp0 p h
     ·rw [List.mem_singleton.mp h];show 0≤c;omega
    simp only [e2,e3,e4]
    refine⟨mo2 bc ok.bb,ite2 (fun h1=>⟨trivial,trivial,?_,nd,hs,h0,e5⟩) fun h1=>ite2 (fun h2=>⟨trivial,trivial,?_,nd,hs,h0,e5⟩) fun h2=>⟨trivial,trivial,?_,nd,hs,h0,e5⟩⟩
    ·rw [h1];rfl
    ·have:isM k=true:=by cases k with | least=>exact absurd h2 (by decide) | more=>rfl
     rw [Bool.eq_false_iff.mpr h1,this];rfl
    ·have:isM k=false:=by cases k with | least=>rfl | more=>exact absurd rfl h2
     rw [Bool.eq_false_iff.mpr h1,this];rfl
 ·rintro δ ⟨ks,u,v,w',z,rfl,nd,hs,h0,hp0⟩
  rw [List.length_map,List.take_length] at h0 hp0 ⊢
  rw [hN,hK5]
  walk_at "rd"
  have hk:=dD nd hs
  refine⟨_,_,rfl,by rw [List.length_map];omega,fun d=>match d with | .str n=>if cfs l n≠0 then some (.str n) else none | _=>none,fun x hx=>?_,?_⟩
  ·obtain ⟨n,hn,rfl⟩:=List.mem_map.mp hx
   walk_at "rd"
   refine⟨_,cv (fun n=>D.int (cfs l n)) hn,?_⟩
   walk_at "rd"
   refine ite2 (fun hz=>?_) fun hz=>?_
   ·rw [if_pos hz]
   ·rw [if_neg hz]
  ·have e:∀ ks:List Str,(0 < ((ks.map D.str).filterMap (fun d=>match d with | .str n=>if cfs l n≠0 then some (D.str n) else none | _=>none)).length)↔∃ n∈ks,cfs l n≠0:=fun ks=>by
    rw [List.length_pos_iff_exists_mem]
    constructor
    ·rintro ⟨d,hd⟩
     obtain ⟨x,hx,e⟩:=List.mem_filterMap.mp hd
     obtain ⟨n,hn,rfl⟩:=List.mem_map.mp hx
     refine⟨n,hn,fun z=>?_⟩
     simp only [z,ne_eq,not_true_eq_false,if_false,reduceCtorEq] at e
    ·rintro ⟨n,hn,z⟩
     exact⟨.str n,List.mem_filterMap.mpr ⟨.str n,List.mem_map.mpr ⟨n,hn,rfl⟩,by simp only;rw [if_pos z]⟩⟩
   refine ite2 (fun hz=>?_) fun hz=>?_
   ·obtain ⟨n,_,z⟩:=(e ks).mp (by omega)
    exact dec false ⟨(fun z=>nomatch z),fun y=>absurd (y.2.1 n) z⟩
   have all:∀ n,cfs l n=0:=fun n=>by
    by_cases hn:n∈ks
    ·exact Classical.byContradiction fun z=>hz (by have:=(e ks).mpr ⟨n,hn,z⟩;omega)
    ·exact h0 n hn
   refine ite2 (fun h1=>dec true ⟨fun _=>⟨hp0,all,.inl h1⟩,fun _=>rfl⟩) fun h1=>ite2 (fun h2=>dec _ ⟨fun z=>⟨hp0,all,.inr ⟨h2,z⟩⟩,fun z=>?_⟩) fun h2=>dec false ⟨(fun z=>nomatch z),fun z=>?_⟩
   ·rcases z.2.2 with y | y
    ·exact absurd y h1
    ·exact y.2
   ·rcases z.2.2 with y | y
    ·exact absurd y h1
    ·exact absurd y.1 h2
theorem nJ:∀ ps:List (Int×Int),D.dps (ps.map frD)≤1
 | []=>Nat.zero_le _
 | p :: r=>by
  rw [List.map_cons];unfold D.dps
  exact Nat.max_le.mpr ⟨by show 1≤1;decide,nJ r⟩
theorem jN:∀ w:List Int,D.nds (w.map D.int)=true
 | []=>rfl
 | a :: w=>by rw [List.map_cons];simp only [D.nds,jN w];rfl
theorem nA:∀ w:List Int,D.dps (w.map D.int)≤1
 | []=>by decide
 | a :: w=>by rw [List.map_cons];have:=nA w;simp only [D.dps,D.dp];omega
theorem kJ:ax ["_law_script","_law_rows_here","_law_handed","_law_found","_law_kept"] ["_law_script"] (ak s_law):=⟨rfl,rfl,rfl,by decide +kernel,rfl,by decide +kernel,by decide +kernel⟩
theorem wM {fa:Addr} {fd:FuncData} (F:Fun K "law" "law" s_law fa fd) (eO:Cal P w K mg base 3 "_law_rows" ["_law_script"] (spD K (eP))) (sw:Cal P w K mg base 66 "met" ["rows"] (spD K (xS))) (bE:Cal P w K mg base 2 "_law_weights_good" ["_law_rows_here","_law_weights"] (spD K (bF))) (bU:Cal P w K mg base 3 "_law_point_good" ["_law_rows_here","_law_point"] (spD K (bY))) (iU:mg "list"=none) (bx:mg "len"=none) (aJ:mg "isinstance"=none) (aR:mg "tuple"=none) (fF:mg "dict"=none):FnOk P w K mg base CX0 67 fa fd ["_law_script"] (spT K fLaw):=by
 refine Bu F kJ (fun ds R ⟨ns,e,_⟩=>by rw [e];rfl) fun cdv A outer s H E ds R hr hX h=>?_
 have hU:=hr.units
 refine⟨_,(ad (aB 1 kJ.nd (av eO (rm hr) rfl (ac (de_v 0) ag))) (ad (aB 2 kJ.nd (dH yx rfl iU vi (ac (de_v 1) ag))) (ad (aB 3 kJ.nd (av sw (rm hr) rfl (ac (de_v 2) ag))) (ad (a7 (DW.dt (i7 (dM (cP (iL jx rfl aJ rfl aR dS (de_v 3)))) (i7 (aI (fQ hU) (aM iJ rfl bx fB (ac (de_v 3) ag)) ae (ar _)) (iY (aI (fQ hU) (de_v 2) (de_v 1) (ar _)))))) (af (ay eg)) aH) (ad (a7 (aI (o_eq hU) (aw au (de_v 3) ae (fun _ _=>rfl)) bm (ar _)) (af (ay (io (av bE (rm hr) rfl (ac (de_v 1) (ac (aw au (de_v 3) ae (fun _ _=>rfl)) ag))) (dw (bT (o_eq hU) (av sw (rm hr) rfl (ac (de_v 2) ag)) (de_v 3) (ar _)))))) aH) (ad (a7 (DW.dt (i7 (aI (fQ hU) (aw au (de_v 3) ae (fun _ _=>rfl)) bm (ar _)) (iY (dM (cP (av bU (rm hr) rfl (ac (de_v 1) (ac (aw au (de_v 3) ae (fun _ _=>rfl)) ag)))))))) (af (ay eg)) aH) (ad (mT 4 kJ.nd rfl fF (aw au (de_v 3) ae (fun _ _=>rfl))) (ad (vp hX (aw au (de_v 3) ae (fun _ _=>rfl))) (bJ 4 (af (ay (bT (BD hU) (av sw (rm hr) rfl (ac (de_v 2) ag)) (bN (ac bm (ac (de_v 4) ag))) (ar _))))))))))))),?_⟩
 obtain ⟨ns,rfl,h63,hb,q⟩:=h
 refine ap fun K1 hK1=>?_
 walk_at "rd"
 refine⟨ns,rfl,h63,hb,fun S rows G=>?_⟩
 obtain ⟨nm,F,h4,hnm⟩:=G.fit
 rw [hK1]
 refine ap fun K2 hK2=>?_
 walk_at "rd"
 rw [hK2]
 refine ap fun K3 hK3=>?_
 walk_at "rd"
 refine⟨nm,rows,64,4,rfl,F,h4,.inl (ul h4),hnm,?_⟩
 rw [hK3]
 refine ap fun K4 hK4=>?_
 rcases zU F h4 F.H.nd (fun _ h=>h) (.inl (ul h4)) with ⟨w,ew,sh,bw⟩ | ⟨ps,ep,M⟩
 ·rw [ew]
  walk_at "rd"
  refine ifn (fun z=>z rfl) ⟨jB rows,lA rows,?_⟩
  rw [hK4]
  refine ap fun K5 hK5=>?_
  walk_at "rd"
  have n6:=F.n6
  refine⟨rows,nm,w,rfl,n6,fun r hr=>⟨F.H.sub r hr,fun t ht=>Nat.le_trans (F.hB.tm r hr t ht) (by decide),Nat.le_trans (F.hB.bd r hr) (by decide)⟩,fun a ha=>Nat.le_trans (Nat.le_trans (bw a ha) (v4 h4)) (by decide),?_⟩
  rw [me.mpr sh.sh]
  refine⟨true,rfl,ifp rfl ⟨nm,rows,64,4,rfl,F,h4,.inl (ul h4),hnm,?_⟩⟩
  rw [ew]
  walk_at "rd"
  have e1:=jN w
  have e2:=nA w
  simp only [D.nds,D.nd,D.dps,D.dp,Bool.and_true,Bool.true_and] at e1 e2 ⊢
  exact⟨e1,by omega,q⟩
 ·rw [ep]
  walk_at "rd"
  refine ifn (fun z=>z rfl) ⟨jB rows,lA rows,?_⟩
  rw [hK4]
  refine ap fun K5 hK5=>?_
  walk_at "rd"
  refine ifn (by decide) ?_
  rw [hK5]
  refine ap fun K6 hK6=>?_
  walk_at "rd"
  refine⟨rows,nm,ps,rfl,F,hnm,M,?_⟩
  walk_at "rd"
  rw [hK6]
  refine ap fun K7 hK7=>?_
  walk_at "rd"
  refine⟨nm,ps.map frD,.inr rfl,fun ka=>?_⟩
  rw [hK7]
  refine ap fun K8 hK8=>?_
  walk_at "rd"
  refine⟨nm,ps.map frD,rfl,?_⟩
  have ew:wipe [.dat (.fz (ns.map D.int)),.dat (.lst (rows.map rwD)),.dat (.lst (rows.map rwD)),.dat (.tup [.str "point",.fd nm (ps.map frD)]),.own ka (.dct nm (ps.map frD))]=[.dat (.fz (ns.map D.int)),.dat (.lst (rows.map rwD)),.dat (.lst (rows.map rwD)),.no,.own ka (.dct nm (ps.map frD))]:=by
   simp only [wipe,qx,List.map_cons,List.map_nil,D.nd,D.nds,D.ndo,jB,mB,jN,Bool.and_true,Bool.and_false,if_true,if_false,reduceCtorEq]
  rw [ew,hK8]
  walk_at "rd"
  refine⟨nm,rows,64,4,rfl,F,h4,.inl (ul h4),hnm,?_⟩
  rw [ep]
  walk_at "rd"
  exact⟨nm,ps.map frD,rfl,rfl,F.H.nd,mB ps,by have:=nJ ps;omega,q⟩
theorem all_mk {l:PySem.W.OpenLaw} {w:World} {K:PySem.W.Frag} {h:Heap} {mg:Str→Option Value} {fa f:Addr} (X:K.In h) (G:h.Ns mainGlobals mg) (hfa:mg "law"=some (.ref fa))
  {od an:Option Addr} {sl:Array (Option Value)} {oc kV dc pm cd ct:Value}
  (q0:FdK K "common_divisor" s_common_divisor)
  (q1:FdK K "made" s_made)
  (q2:FdK K "plus" s_plus)
  (q3:FdK K "times" s_times)
  (q4:FdK K "less" s_less)
  (q5:FdK K "is_row" s_is_row)
  (q6:FdK K "mark_names" s_mark_names)
  (q7:FdK K "names_of" s_names_of)
  (q8:FdK K "tops_of" s_tops_of)
  (q9:FdK K "top_of_sum" s_top_of_sum)
  (q10:FdK K "row_is_so" s_row_is_so)
  (q11:FdK K "part_is_so" s_part_is_so)
  (q12:FdK K "is_so" s_is_so)
  (q13:FdK K "added" s_added)
  (q14:FdK K "weight_of" s_weight_of)
  (q15:FdK K "alone" s_alone)
  (q16:FdK K "shortened" s_shortened)
  (q17:FdK K "crossed" s_crossed)
  (q18:FdK K "without" s_without)
  (q19:FdK K "taken_out" s_taken_out)
  (q20:FdK K "bound_on" s_bound_on)
  (q21:FdK K "tighter" s_tighter)
  (q22:FdK K "number_in" s_number_in)
  (q23:FdK K "piece_for" s_piece_for)
  (q24:FdK K "found_back" s_found_back)
  (q25:FdK K "solved" s_solved)
  (q26:FdK K "met" s_met)
  (q27:FdK K "_law_cell" s__law_cell)
  (q28:FdK K "_law_whole" s__law_whole)
  (q29:FdK K "_law_is_fraction" s__law_is_fraction)
  (q30:FdK K "_law_over" s__law_over)
  (q31:FdK K "_law_total" s__law_total)
  (q32:FdK K "_law_row_so" s__law_row_so)
  (q33:FdK K "_law_number" s__law_number)
  (q34:FdK K "_law_letters" s__law_letters)
  (q35:FdK K "_law_row" s__law_row)
  (q36:FdK K "_law_turned" s__law_turned)
  (q37:FdK K "_law_rows" s__law_rows)
  (q38:FdK K "_law_point_good" s__law_point_good)
  (q39:FdK K "_law_weights_good" s__law_weights_good)
  (a:PySem.W.nsIn K mainGlobals "law"=some (some (.ref f))) (l1:K.lookup f=some ⟨oc,od,.func (PySem.W.fnOf "law" "law" (ce s_law) (a9 s_law) (ak s_law) .none kV dc pm an cd ct),sl⟩) (c:PySem.W.codeIn K cd "law"=true) (k:PySem.W.keepIn K (.ref f)=true)
  (z0:PySem.W.nsIn K mainGlobals "abs"=some none)
  (z1:PySem.W.nsIn K mainGlobals "sorted"=some none)
  (z2:PySem.W.nsIn K mainGlobals "zip"=some none)
  (z3:PySem.W.nsIn K mainGlobals "tuple"=some none)
  (z4:PySem.W.nsIn K mainGlobals "enumerate"=some none)
  (z5:PySem.W.nsIn K mainGlobals "range"=some none)
  (z6:PySem.W.nsIn K mainGlobals "len"=some none)
  (z7:PySem.W.nsIn K mainGlobals "reversed"=some none)
  (z8:PySem.W.nsIn K mainGlobals "dict"=some none)
  (z9:PySem.W.nsIn K mainGlobals "isinstance"=some none)
  (z10:PySem.W.nsIn K mainGlobals "bool"=some none)
  (z11:PySem.W.nsIn K mainGlobals "int"=some none)
  (z12:PySem.W.nsIn K mainGlobals "list"=some none)
  (z13:PySem.W.nsIn K mainGlobals "min"=some none)
  {ga_ENDLESS:Addr} {od_ENDLESS:Option Addr} {n_ENDLESS:Nat} {sl_ENDLESS:Array (Option Value)} (gi_ENDLESS:PySem.W.nsIn K mainGlobals "ENDLESS"=some (some (.ref ga_ENDLESS))) (gl_ENDLESS:K.lookup ga_ENDLESS=some ⟨.type "tuple",od_ENDLESS,.seq #[.none,.bool false] n_ENDLESS,sl_ENDLESS⟩)
  : ∃ fd:FuncData,(∀ (s:Shared) (v:Value),BindsTo s fd ⟨[v],[]⟩ [("_law_script",v)])∧∀ base:Heap,K.In base→base.Ns mainGlobals mg→FnOk l.prog w K mg base CX0 67 fa fd ["_law_script"] (xT K):=by
 have e:=hfa.symm.trans (PySem.W.mg_of X G a)
 cases e
 have oX:=PySem.W.mg_none_of X G z0
 have aQ:=PySem.W.mg_none_of X G z1
 have et:=PySem.W.mg_none_of X G z2
 have aR:=PySem.W.mg_none_of X G z3
 have eN:=PySem.W.mg_none_of X G z4
 have bX:=PySem.W.mg_none_of X G z5
 have bx:=PySem.W.mg_none_of X G z6
 have fG:=PySem.W.mg_none_of X G z7
 have fF:=PySem.W.mg_none_of X G z8
 have aJ:=PySem.W.mg_none_of X G z9
 have re:=PySem.W.mg_none_of X G z10
 have xa:=PySem.W.mg_none_of X G z11
 have iU:=PySem.W.mg_none_of X G z12
 have xN:=PySem.W.mg_none_of X G z13
 have g_ENDLESS:GEnd K mg "ENDLESS":=⟨⟨_,_,_,PySem.W.mg_of X G gi_ENDLESS,gl_ENDLESS,rfl,rfl⟩⟩
 have F:=vf (st:=s_law) l1 c k
 refine⟨PySem.W.fnOf "law" "law" (ce s_law) (a9 s_law) (ak s_law) .none kV dc pm an cd ct,fun s v=>.of_eq rfl,fun base _ _=>?_⟩
 have aV:=fE (P:=l.prog) (w:=w) (base:=base) (q0.fd2 X G fun _ _ _ _ _ _ _ _=>rfl) oX
 have cY:=sL (P:=l.prog) (w:=w) (base:=base) (q1.fd2 X G fun _ _ _ _ _ _ _ _=>rfl) aV
 have sF:=uy (P:=l.prog) (w:=w) (base:=base) (q2.fd2 X G fun _ _ _ _ _ _ _ _=>rfl) cY
 have lN:=pX (P:=l.prog) (w:=w) (base:=base) (q3.fd2 X G fun _ _ _ _ _ _ _ _=>rfl) cY
 have iP:=t6 (P:=l.prog) (w:=w) (base:=base) (q4.fd2 X G fun _ _ _ _ _ _ _ _=>rfl)
 have ee:=oY (P:=l.prog) (w:=w) (base:=base) (q5.fd1 X G fun _ _ _ _ _ _ _=>rfl)
 have bh:∀ n,Cal l.prog w K mg base (2 + n) "mark_names" ["saying","found"] (spO1 K (a4 n)):=fun n=>Nat.rec (motive:=fun n=>Cal l.prog w K mg base (2 + n) "mark_names" ["saying","found"] (spO1 K (a4 n))) (qK (q6.fd2 X G fun _ _ _ _ _ _ _ _=>rfl) _ fM) (fun n ih=>iI (P:=l.prog) (w:=w) (base:=base) (q6.fd2 X G fun _ _ _ _ _ _ _ _=>rfl) ee ih) n
 have bh:Cal l.prog w K mg base 62 "mark_names" ["saying","found"] (spO1 K (a4 60)):=bh 60
 have cx:=j8 (P:=l.prog) (w:=w) (base:=base) (q7.fd1 X G fun _ _ _ _ _ _ _=>rfl) bh aQ
 have cX:=mn (P:=l.prog) (w:=w) (base:=base) (q8.fd2 X G fun _ _ _ _ _ _ _ _=>rfl)
 have bL:=iA (P:=l.prog) (w:=w) (base:=base) (q9.fd2 X G fun _ _ _ _ _ _ _ _=>rfl)
 have eX:=jF (P:=l.prog) (w:=w) (base:=base) (q10.fd3 X G fun _ _ _ _ _ _ _ _ _=>rfl) bL
 have aW:∀ n,Cal l.prog w K mg base (3 + n) "part_is_so" ["saying","tops","bottom"] (spD K (a6 n)):=fun n=>Nat.rec (motive:=fun n=>Cal l.prog w K mg base (3 + n) "part_is_so" ["saying","tops","bottom"] (spD K (a6 n))) (tF (q11.fd3 X G fun _ _ _ _ _ _ _ _ _=>rfl) _ fO) (fun n ih=>iH (P:=l.prog) (w:=w) (base:=base) (q11.fd3 X G fun _ _ _ _ _ _ _ _ _=>rfl) ee eX ih) n
 have aW:Cal l.prog w K mg base 63 "part_is_so" ["saying","tops","bottom"] (spD K (a6 60)):=aW 60
 have lC:=pL (P:=l.prog) (w:=w) (base:=base) (q12.fd2 X G fun _ _ _ _ _ _ _ _=>rfl) cX cx aW
 have lJ:=qq (P:=l.prog) (w:=w) (base:=base) (q13.fd2 X G fun _ _ _ _ _ _ _ _=>rfl) et aR aQ
 have aL:=jM (P:=l.prog) (w:=w) (base:=base) (q14.fd2 X G fun _ _ _ _ _ _ _ _=>rfl)
 have lE:=rN (P:=l.prog) (w:=w) (base:=base) (q15.fd1 X G fun _ _ _ _ _ _ _=>rfl) eN aR bX bx
 have eT:=jz (P:=l.prog) (w:=w) (base:=base) (q16.fd1 X G fun _ _ _ _ _ _ _=>rfl) aV aR
 have gA:=lr (P:=l.prog) (w:=w) (base:=base) (q17.fd3 X G fun _ _ _ _ _ _ _ _ _=>rfl) aL eT et
 have gR:=kT (P:=l.prog) (w:=w) (base:=base) (q18.fd4 X G fun _ _ _ _ _ _ _ _ _ _=>rfl) aL gA lJ bx
 have eR:=jy (P:=l.prog) (w:=w) (base:=base) (q19.fd2 X G fun _ _ _ _ _ _ _ _=>rfl) lE gR fG bx
 have d4:=jU (P:=l.prog) (w:=w) (base:=base) (q20.fd3 X G fun _ _ _ _ _ _ _ _ _=>rfl) cX cY aL bL
 have e8:=mv (P:=l.prog) (w:=w) (base:=base) (q21.fd3 X G fun _ _ _ _ _ _ _ _ _=>rfl) iP
 have e6:=jj (P:=l.prog) (w:=w) (base:=base) (q22.fd1 X G fun _ _ _ _ _ _ _=>rfl) cY iP lN sF
 have eJ:=ji (P:=l.prog) (w:=w) (base:=base) (q23.fd3 X G fun _ _ _ _ _ _ _ _ _=>rfl) aL e8 d4 g_ENDLESS
 have dR:=iz (P:=l.prog) (w:=w) (base:=base) (q24.fd3 X G fun _ _ _ _ _ _ _ _ _=>rfl) e6 eJ fF et
 have jv:=oq (P:=l.prog) (w:=w) (base:=base) (q25.fd2 X G fun _ _ _ _ _ _ _ _=>rfl) eR lC dR
 have sw:=xP (P:=l.prog) (w:=w) (base:=base) (q26.fd1 X G fun _ _ _ _ _ _ _=>rfl) cx jv aQ
 have bI:=jE (P:=l.prog) (w:=w) (base:=base) (q27.fd2 X G fun _ _ _ _ _ _ _ _=>rfl) bx
 have bf:=iG (P:=l.prog) (w:=w) (base:=base) (q28.fd1 X G fun _ _ _ _ _ _ _=>rfl) aJ re xa
 have bR:=eh (P:=l.prog) (w:=w) (base:=base) (q29.fd1 X G fun _ _ _ _ _ _ _=>rfl) bf bx aJ aR oX
 have eB:=jf (P:=l.prog) (w:=w) (base:=base) (q30.fd2 X G fun _ _ _ _ _ _ _ _=>rfl)
 have dY:=iF (P:=l.prog) (w:=w) (base:=base) (q31.fd2 X G fun _ _ _ _ _ _ _ _=>rfl)
 have dl:=gK (P:=l.prog) (w:=w) (base:=base) (q32.fd2 X G fun _ _ _ _ _ _ _ _=>rfl) eB dY
 have cq:=ik (P:=l.prog) (w:=w) (base:=base) (q33.fd1 X G fun _ _ _ _ _ _ _=>rfl)
 have cS:=gf (P:=l.prog) (w:=w) (base:=base) (q34.fd1 X G fun _ _ _ _ _ _ _=>rfl) iU bX bx aQ
 have fH:=kM (P:=l.prog) (w:=w) (base:=base) (q35.fd1 X G fun _ _ _ _ _ _ _=>rfl) cS cq bX aR
 have c7:=gZ (P:=l.prog) (w:=w) (base:=base) (q36.fd2 X G fun _ _ _ _ _ _ _ _=>rfl) et aQ aR
 have eO:=jd (P:=l.prog) (w:=w) (base:=base) (q37.fd1 X G fun _ _ _ _ _ _ _=>rfl) bI fH c7 bX xN bx
 have bU:=eS (P:=l.prog) (w:=w) (base:=base) (q38.fd2 X G fun _ _ _ _ _ _ _ _=>rfl) bR dl aJ fF aQ bx
 have bE:=dF (P:=l.prog) (w:=w) (base:=base) (q39.fd2 X G fun _ _ _ _ _ _ _ _=>rfl) bf bx aJ aR et
 exact vT (wM F eO sw bE bU iU bx aJ aR fF)
end Lw
open PySem PySem.W PyProof.Rows
theorem PySem.Challenge.cw_rowbetween_k21_met_holds : PySem.Challenge.rw_rowbetween_k21_met.Holds := by
 refine Hd.half fun YP d K hY hdf hdn f=>?_
 refine DL.walkB (l:=PySem.Challenge.rw_rowbetween_k21_met) (k:=67) (x:="_law_script") rfl hdf ⟨rfl,by decide,by decide⟩ hY fun w mg fa h KX G hmg=>?_
 rw [hdn] at hmg
 obtain ⟨⟨_,_,_,_,_,_,_,_,_,_,a,l1,c,k⟩⟩:=(f w).q40
 obtain ⟨_,_,_,_,gi_ENDLESS,gl_ENDLESS⟩:=(f w).g_ENDLESS
 exact Lw.all_mk KX G hmg (f w).q0 (f w).q1 (f w).q2 (f w).q3 (f w).q4 (f w).q5 (f w).q6 (f w).q7 (f w).q8 (f w).q9 (f w).q10 (f w).q11 (f w).q12 (f w).q13 (f w).q14 (f w).q15 (f w).q16 (f w).q17 (f w).q18 (f w).q19 (f w).q20 (f w).q21 (f w).q22 (f w).q23 (f w).q24 (f w).q25 (f w).q26 (f w).q27 (f w).q28 (f w).q29 (f w).q30 (f w).q31 (f w).q32 (f w).q33 (f w).q34 (f w).q35 (f w).q36 (f w).q37 (f w).q38 (f w).q39 a l1 c k (f w).z0 (f w).z1 (f w).z2 (f w).z3 (f w).z4 (f w).z5 (f w).z6 (f w).z7 (f w).z8 (f w).z9 (f w).z10 (f w).z11 (f w).z12 (f w).z13 gi_ENDLESS gl_ENDLESS
#print axioms PySem.Challenge.cw_rowbetween_k21_met_holds
