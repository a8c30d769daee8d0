import PyProof.Rows.All
import Wide.All
import OpenK.AllK
import Wide.FinOn
import Lean
import PyProof.EqAt
import PyProof.EqKinds
import PyProof.TupleCall
import PySem.Challenge.RW_rowbetween_k62_whole_turned_about
set_option Elab.async false
set_option linter.all false
set_option maxRecDepth 100000
set_option maxHeartbeats 4000000
set_option Elab.async false
set_option linter.all false
set_option maxRecDepth 100000
def CK := @List.length_map
def CL := @List.mem_cons_of_mem
def CM := @List.mem_map
def CN := @Nat.le_trans
def CO := @PySem.Heap.get?_push_of_some
def CP := @List.mem_cons_self
def CQ := @List.mem_cons
def CS := @Classical.byContradiction
def CT := @List.mem_append_right
def CU := @List.mem_append_left
def CV := @List.mem_append
def CW := @List.length_append
def CY := @List.getElem?_eq_some_iff
def CZ := @List.length_cons
def C0 := @List.getElem?_map
def C1 := @List.mem_of_getElem?
def C2 := @List.mem_singleton
def C3 := @List.map_append
def C4 := @List.take_length
def C5 := @List.mem_filter
def C6 := @List.length_replicate
def C7 := @List.size_toArray
def C8 := @List.getElem?_append_right
def C9 := @List.getElem?_append_left
def Da := @PySem.Heap.get?_push_size
def Db := @List.filter_cons_of_neg
def Dc := @List.filter_cons_of_pos
def Dd := @List.mem_of_mem_take
def De := @List.length_take
def Df := @Rat.intCast_mul
def Dg := @Rat.intCast_add
def Dh := @Bool.and_eq_true_iff
def Di := @List.of_mem_zip
def Dj := @List.getElem_mem
def Dk := @List.getElem?_eq_getElem
local macro_rules | `(tactic| walk_at "v3") => `(tactic| first | exact Or.inl rfl | exact Or.inr (Or.inl rfl) | exact Or.inr (Or.inr rfl))
local macro_rules | `(tactic| walk_at "v2") => `(tactic| first | exact Or.inl rfl | exact Or.inr rfl)
local macro_rules | `(tactic| walk_at "v1") => `(tactic| first | exact .inl rfl | exact .inr rfl | assumption)
namespace L2
open PySem
def cI (s:Stmt):Arguments:=match s with
 | .FunctionDef _ a _ _ _ _ _ _ _ _=>a
 | _=>{ posonlyargs:=[],args:=[],vararg:=none,kwonlyargs:=[],kw_defaults:=[],kwarg:=none,defaults:=[] }
def bI (s:Stmt):List Stmt:=match s with
 | .FunctionDef _ _ b _ _ _ _ _ _ _=>b
 | _=>[]
def am (s:Stmt):Scope:=match s with
 | .FunctionDef _ _ _ _ _ _ sc _ _ _=>sc
 | _=>{ kind:=.function,names:=[],isGenerator:=false,isCoroutine:=false }
end L2
namespace DL
open PySem PySem.Spec PyProof.Rows L2
def txt (D:List (Str×Str)):List (Str×KTD.Dat):=D.map fun p=>(p.1,KTD.Dat.flat (.str p.2))
structure FdK (K:PySem.W.Frag) (x:Str) (st:Stmt):Prop where
 ex:∃ (f:Addr) (oc:Value) (od an:Option Addr) (sl:Array (Option Value)) (kV dc pm cd ct:Value),PySem.W.nsIn K mainGlobals x=some (some (.ref f))∧K.lookup f=some ⟨oc,od,.func (PySem.W.fnOf x x (cI st) (bI st) (am st) .none kV dc pm an cd ct),sl⟩∧PySem.W.codeIn K cd x=true∧PySem.W.keepIn K (.ref f)=true
end DL
namespace Lw
open PySem L2 DL
def top (i:Nat):Stmt:=PySem.Challenge.pw_rowbetween_k62_whole_turned_about.main.body.getD i (.Pass ⟨0,0,0,0⟩)
abbrev s_common_divisor:Stmt:=top 6
abbrev s_made:Stmt:=top 7
abbrev s_plus:Stmt:=top 8
abbrev s_times:Stmt:=top 9
abbrev s_less:Stmt:=top 10
abbrev s_is_row:Stmt:=top 15
abbrev s_mark_names:Stmt:=top 16
abbrev s_names_of:Stmt:=top 17
abbrev s_tops_of:Stmt:=top 18
abbrev s_top_of_sum:Stmt:=top 19
abbrev s_row_is_so:Stmt:=top 20
abbrev s_part_is_so:Stmt:=top 21
abbrev s_is_so:Stmt:=top 22
abbrev s_contrary:Stmt:=top 23
abbrev s_plain_part:Stmt:=top 24
abbrev s_plain:Stmt:=top 25
abbrev s__law_cell:Stmt:=top 48
abbrev s_put_together:Stmt:=top 26
abbrev s_cases_within:Stmt:=top 27
abbrev s_cases:Stmt:=top 28
abbrev s_added:Stmt:=top 34
abbrev s_weight_of:Stmt:=top 35
abbrev s_alone:Stmt:=top 36
abbrev s_shortened:Stmt:=top 37
abbrev s_crossed:Stmt:=top 38
abbrev s_without:Stmt:=top 39
abbrev s_taken_out:Stmt:=top 40
abbrev s_bound_on:Stmt:=top 41
abbrev s_tighter:Stmt:=top 31
abbrev s_number_in:Stmt:=top 32
abbrev s_piece_for:Stmt:=top 42
abbrev s_found_back:Stmt:=top 43
abbrev s_solved:Stmt:=top 44
abbrev s_both_so:Stmt:=top 46
abbrev s__law_whole:Stmt:=top 50
abbrev s__law_over:Stmt:=top 52
abbrev s__law_total:Stmt:=top 53
abbrev s__law_row_so:Stmt:=top 54
abbrev s__law_number:Stmt:=top 49
abbrev s__law_line:Stmt:=top 55
abbrev s__law_fence:Stmt:=top 56
abbrev s__law_shaped:Stmt:=top 57
abbrev s__law_sayings:Stmt:=top 58
abbrev s__law_so:Stmt:=top 59
abbrev s__law_cases:Stmt:=top 61
abbrev s__law_weights_good:Stmt:=top 62
abbrev s__law_paper_good:Stmt:=top 63
abbrev s__law_times:Stmt:=top 64
abbrev s__law_good:Stmt:=top 65
abbrev s_law:Stmt:=top 66
end Lw
namespace Hd
open PySem PySem.W PyProof.Rows
set_option maxRecDepth 100000
set_option maxHeartbeats 0
def kept (i:Nat):Stmt:=PySem.Challenge.pw_rowbetween_k62_whole_turned_about.main.body.getD i (.Pass ⟨0,0,0,0⟩)
def vw:Program:={ PySem.Challenge.pw_rowbetween_k62_whole_turned_about with main:={ PySem.Challenge.pw_rowbetween_k62_whole_turned_about.main with body:=[kept 1,kept 2,kept 3,kept 4,kept 6,kept 7,kept 8,kept 9,kept 10,kept 12,kept 13,kept 14,kept 15,kept 16,kept 17,kept 18,kept 19,kept 20,kept 21,kept 22,kept 23,kept 24,kept 25,kept 26,kept 27,kept 28,kept 30,kept 31,kept 32,kept 34,kept 35,kept 36,kept 37,kept 38,kept 39,kept 40,kept 41,kept 42,kept 43,kept 44,kept 46,kept 48,kept 49,kept 50,kept 51,kept 52,kept 53,kept 54,kept 55,kept 56,kept 57,kept 58,kept 59,kept 60,kept 61,kept 62,kept 63,kept 64,kept 65,kept 66] } }
def xt (s:Shared):Bool:=xlAt vw [] s && recOk (RowW.records (OpenRow.toRowW PySem.Challenge.rw_rowbetween_k62_whole_turned_about.row)) s
noncomputable def st0 (w:World) (os:OsState):Shared:=⟨boot_heap w.params,#[],boot_drawn,boot_toks,os⟩
noncomputable def rn (w:World) (os:OsState):=(topRun treeTable PySem.Challenge.pw_rowbetween_k62_whole_turned_about w 11 (some (Value.ref 6)) 5430 (st0 w os) (topStub PySem.Challenge.pw_rowbetween_k62_whole_turned_about))
theorem said:PySem.W.OpenLaw.wellSaid PySem.Challenge.rw_rowbetween_k62_whole_turned_about=true:=by
 rw [PySem.W.Fast.te9446332074065402090]
 kernel_rfl
local macro_rules | `(tactic| walk_at "hf") => `(tactic| (unfold Hd.rn Hd.st0; (try rw [PySem.W.Fast.te14082659384304107361]); (try rw [PySem.W.Fast.te14364793385576792824]); (try rw [PySem.W.Fast.te5160383126252970620]); (try rw [PySem.W.Fast.te10880121769531294198]); (try rw [PySem.W.Fast.te14722251495701143533]); (try rw [PySem.W.Fast.te10994771534591457954]); (try rw [PySem.W.Fast.te479339242167458305]); (try rw [PySem.W.Fast.te16090120013241838585]); (try rw [PySem.W.Fast.te2386780881361962483]); (try rw [PySem.W.Fast.te11698064438423848299]); (try rw [PySem.W.Fast.te7317090234206586261]); (try rw [PySem.W.Fast.te7369524293546568484]); (try rw [PySem.W.Fast.te821141287760084731]); (try rw [PySem.W.Fast.te3399658132070893891]); (try rw [PySem.W.Fast.te7409074990110511671]); (try rw [PySem.W.Fast.te13664370479719496447]); (try rw [PySem.W.Fast.te5991557255702980513]); (try rw [PySem.W.Fast.te3247288618530077131]); (try rw [PySem.W.Fast.te5923862056798008813]); kernel_rfl))
theorem pair {σ α β:Type} {o:Option σ} {f:σ→α} {g:σ→β} {x:α} {y:β} (a:o.map f=some x) (b:o.map g=some y):o.map (fun s=>(f s,g s))=some (x,y):=by
 cases o with
 | none=>cases a
 | some s=>cases a;cases b;rfl
theorem pFst {σ α β:Type} {o:Option σ} {f:σ→α} {g:σ→β} {x:α} {y:β} (a:o.map (fun s=>(f s,g s))=some (x,y)):o.map f=some x:=by
 cases o with
 | none=>cases a
 | some s=>cases a;rfl
theorem pSnd {σ α β:Type} {o:Option σ} {f:σ→α} {g:σ→β} {x:α} {y:β} (a:o.map (fun s=>(f s,g s))=some (x,y)):o.map g=some y:=by
 cases o with
 | none=>cases a
 | some s=>cases a;rfl
theorem left {α:Type} {Yf:Shared→α} {Ya:World→α} (go:∀ (w:World) (os:OsState),(rn w os).map (fun s=>(staticsOk (importedModules PySem.Challenge.pw_rowbetween_k62_whole_turned_about.main.body) (boot_heap w.params) s.heap && namesBound PySem.Challenge.pw_rowbetween_k62_whole_turned_about s.heap && gensDone s && laidKept (boot_heap w.params) s.heap,openSeen vw ["OPPOSITES"] (importedModules PySem.Challenge.pw_rowbetween_k62_whole_turned_about.main.body) xt true s,Yf s))=some (true,openGood vw ["OPPOSITES"],Ya w)):LeftO PySem.Challenge.pw_rowbetween_k62_whole_turned_about vw ["OPPOSITES"] xt Yf Ya 5430 true:=fun w=>by
 obtain ⟨⟨h,gs,d,k,os⟩,e1,e2⟩:=Option.map_eq_some_iff.mp (boot_open (p:=PySem.Challenge.pw_rowbetween_k62_whole_turned_about) (N:=5430) (by kernel_rfl) (by decide) (fun s=>rfl) w)
 obtain ⟨rfl,rfl,rfl,rfl⟩:h=boot_heap w.params∧gs=#[]∧d=boot_drawn∧k=boot_toks:=by simpa using e2
 have size:((boot_heap w.params).isNs mainGlobals,(boot_heap w.params).objs.size,(boot_heap w.params).nsMap mainGlobals "__annotations__")=(true,11,some (Value.ref 6)):=by kernel_rfl
 simp only [Prod.mk.injEq] at size
 obtain ⟨z1,z2,z3⟩:=size
 obtain ⟨s,r1,r2⟩:=Option.map_eq_some_iff.mp (go w os)
 simp only [Prod.mk.injEq] at r2
 obtain ⟨l1,l2,l3⟩:=r2
 unfold openEnds
 rw [e1]
 show (topFrom treeTable PySem.Challenge.pw_rowbetween_k62_whole_turned_about w 5430 (st0 w os)).map _=_
 have t:topFrom treeTable PySem.Challenge.pw_rowbetween_k62_whole_turned_about w 5430 (st0 w os)=some s:=by
  unfold topFrom
  rw [show (st0 w os).heap=boot_heap w.params from rfl,z1,z2,z3]
  unfold rn at r1
  rw [r1]
  show (match _ && _ && _ && _ with | true=>_ | false=>_)=_
  rw [l1]
 rw [t]
 exact congrArg some (Prod.ext (by exact l2) (by exact l3))
theorem twoRows {α:Type} {Yf:Shared→α} {Ya:World→α} (row:String) (a:∀ (w:World) (os:OsState),(rn (w.withFollow row false) os).map (fun s=>(staticsOk (importedModules PySem.Challenge.pw_rowbetween_k62_whole_turned_about.main.body) (boot_heap (w.withFollow row false).params) s.heap && namesBound PySem.Challenge.pw_rowbetween_k62_whole_turned_about s.heap && gensDone s && laidKept (boot_heap (w.withFollow row false).params) s.heap,openSeen vw ["OPPOSITES"] (importedModules PySem.Challenge.pw_rowbetween_k62_whole_turned_about.main.body) xt true s,Yf s))=some (true,openGood vw ["OPPOSITES"],Ya (w.withFollow row false))) (b:∀ (w:World) (os:OsState),(rn (w.withFollow row true) os).map (fun s=>(staticsOk (importedModules PySem.Challenge.pw_rowbetween_k62_whole_turned_about.main.body) (boot_heap (w.withFollow row true).params) s.heap && namesBound PySem.Challenge.pw_rowbetween_k62_whole_turned_about s.heap && gensDone s && laidKept (boot_heap (w.withFollow row true).params) s.heap,openSeen vw ["OPPOSITES"] (importedModules PySem.Challenge.pw_rowbetween_k62_whole_turned_about.main.body) xt true s,Yf s))=some (true,openGood vw ["OPPOSITES"],Ya (w.withFollow row true))):∀ (w:World) (os:OsState),(rn w os).map (fun s=>(staticsOk (importedModules PySem.Challenge.pw_rowbetween_k62_whole_turned_about.main.body) (boot_heap w.params) s.heap && namesBound PySem.Challenge.pw_rowbetween_k62_whole_turned_about s.heap && gensDone s && laidKept (boot_heap w.params) s.heap,openSeen vw ["OPPOSITES"] (importedModules PySem.Challenge.pw_rowbetween_k62_whole_turned_about.main.body) xt true s,Yf s))=some (true,openGood vw ["OPPOSITES"],Ya w) :=
 byRow2 row (P:=fun w=>∀ os:OsState,(rn w os).map (fun s=>(staticsOk (importedModules PySem.Challenge.pw_rowbetween_k62_whole_turned_about.main.body) (boot_heap w.params) s.heap && namesBound PySem.Challenge.pw_rowbetween_k62_whole_turned_about s.heap && gensDone s && laidKept (boot_heap w.params) s.heap,openSeen vw ["OPPOSITES"] (importedModules PySem.Challenge.pw_rowbetween_k62_whole_turned_about.main.body) xt true s,Yf s))=some (true,openGood vw ["OPPOSITES"],Ya w)) a b
theorem oY (w:World) (os:OsState):(rn (w.withFollow "special-get-raises" false) os).map (fun s=>(staticsOk (importedModules PySem.Challenge.pw_rowbetween_k62_whole_turned_about.main.body) (boot_heap (w.withFollow "special-get-raises" false).params) s.heap && namesBound PySem.Challenge.pw_rowbetween_k62_whole_turned_about s.heap && gensDone s && laidKept (boot_heap (w.withFollow "special-get-raises" false).params) s.heap,seen ((recsOf vw).map (·.name)) (ownsOf vw) [] { s with gens:=#[] },s.heap.bltView,s.heap.keysOk (looseW vw ["OPPOSITES"]) ((recsOf vw).map (·.name)) ((litsOf vw).map (·.1)) ((clssOf vw (looseW vw ["OPPOSITES"])).map (·.name)) && s.heap.accountedOkI (importedModules PySem.Challenge.pw_rowbetween_k62_whole_turned_about.main.body) && s.heap.isNs mainGlobals && s.heap.isNs builtinsNs && tablesOk vw s.heap && xt s && (if true then s.gens.size == 0 else !leftWithCleanup s.gens)))=some ((true),(expectedOf vw),(bltViewBooted),(true)):=by
 (refine pair ?_ (pair ?_ (pair ?_ ?_)));(focus (walk_at "hf"));(focus (walk_at "hf"));(focus (walk_at "hf"));(focus (walk_at "hf"))
theorem yi (w:World) (os:OsState):(rn (w.withFollow "special-get-raises" false) os).map (fun s=>staticsOk (importedModules PySem.Challenge.pw_rowbetween_k62_whole_turned_about.main.body) (boot_heap (w.withFollow "special-get-raises" false).params) s.heap && namesBound PySem.Challenge.pw_rowbetween_k62_whole_turned_about s.heap && gensDone s && laidKept (boot_heap (w.withFollow "special-get-raises" false).params) s.heap)=some (true):=(pFst (oY w os))
theorem yb (w:World) (os:OsState):(rn (w.withFollow "special-get-raises" false) os).map (fun s=>seen ((recsOf vw).map (·.name)) (ownsOf vw) [] { s with gens:=#[] })=some (expectedOf vw):=(pFst (pSnd (oY w os)))
theorem yE (w:World) (os:OsState):(rn (w.withFollow "special-get-raises" false) os).map (fun s=>s.heap.bltView)=some (bltViewBooted):=(pFst (pSnd (pSnd (oY w os))))
theorem yn (w:World) (os:OsState):(rn (w.withFollow "special-get-raises" false) os).map (fun s=>s.heap.keysOk (looseW vw ["OPPOSITES"]) ((recsOf vw).map (·.name)) ((litsOf vw).map (·.1)) ((clssOf vw (looseW vw ["OPPOSITES"])).map (·.name)) && s.heap.accountedOkI (importedModules PySem.Challenge.pw_rowbetween_k62_whole_turned_about.main.body) && s.heap.isNs mainGlobals && s.heap.isNs builtinsNs && tablesOk vw s.heap && xt s && (if true then s.gens.size == 0 else !leftWithCleanup s.gens))=some (true):=(pSnd (pSnd (pSnd (oY w os))))
theorem rT (w:World) (os:OsState):(rn (w.withFollow "special-get-raises" false) os).map (fun s=>(tabsOk vw s,pinSeenD vw (drecsOf vw) s,plainSeenE vw (looseW vw ["OPPOSITES"]) s))=some ((true),(pinGoodD (drecsOf vw)),(plainGoodE vw (looseW vw ["OPPOSITES"]))):=by
 (refine pair ?_ (pair ?_ ?_));(focus (walk_at "hf"));(focus (walk_at "hf"));(focus (walk_at "hf"))
theorem xf (w:World) (os:OsState):(rn (w.withFollow "special-get-raises" false) os).map (fun s=>tabsOk vw s)=some (true):=(pFst (rT w os))
theorem yr (w:World) (os:OsState):(rn (w.withFollow "special-get-raises" false) os).map (fun s=>pinSeenD vw (drecsOf vw) s)=some (pinGoodD (drecsOf vw)):=(pFst (pSnd (rT w os)))
theorem ye (w:World) (os:OsState):(rn (w.withFollow "special-get-raises" false) os).map (fun s=>plainSeenE vw (looseW vw ["OPPOSITES"]) s)=some (plainGoodE vw (looseW vw ["OPPOSITES"])):=(pSnd (pSnd (rT w os)))
theorem rY (w:World) (os:OsState):(rn (w.withFollow "special-get-raises" false) os).map (fun s=>(plainSeenD vw ["OPPOSITES"] s,wideSeen vw s,clsSeenW vw ["OPPOSITES"] s))=some ((plainGoodD vw ["OPPOSITES"]),(wideGood vw),(clsGoodW vw ["OPPOSITES"])):=by
 (refine pair ?_ (pair ?_ ?_));(focus (walk_at "hf"));(focus (walk_at "hf"));(focus (walk_at "hf"))
theorem y8 (w:World) (os:OsState):(rn (w.withFollow "special-get-raises" false) os).map (fun s=>plainSeenD vw ["OPPOSITES"] s)=some (plainGoodD vw ["OPPOSITES"]):=(pFst (rY w os))
theorem w5 (w:World) (os:OsState):(rn (w.withFollow "special-get-raises" false) os).map (fun s=>wideSeen vw s)=some (wideGood vw):=(pFst (pSnd (rY w os)))
theorem yR (w:World) (os:OsState):(rn (w.withFollow "special-get-raises" false) os).map (fun s=>clsSeenW vw ["OPPOSITES"] s)=some (clsGoodW vw ["OPPOSITES"]):=(pSnd (pSnd (rY w os)))
theorem xW (w:World) (os:OsState):(rn (w.withFollow "special-get-raises" false) os).map (fun s=>openSeen vw ["OPPOSITES"] (importedModules PySem.Challenge.pw_rowbetween_k62_whole_turned_about.main.body) xt true s)=some (openGood vw ["OPPOSITES"]):=(pair (yb w os) (pair (yE w os) (pair (yn w os) (pair (xf w os) (pair (yr w os) (pair (ye w os) (pair (y8 w os) (pair (w5 w os) (yR w os)))))))))
theorem all_a {α:Type} {Yf:Shared→α} {Ya:World→α} (h:∀ (w:World) (os:OsState),(rn (w.withFollow "special-get-raises" false) os).map (fun s=>Yf s)=some (Ya (w.withFollow "special-get-raises" false))) (w:World) (os:OsState) :
  (rn (w.withFollow "special-get-raises" false) os).map (fun s=>(staticsOk (importedModules PySem.Challenge.pw_rowbetween_k62_whole_turned_about.main.body) (boot_heap (w.withFollow "special-get-raises" false).params) s.heap && namesBound PySem.Challenge.pw_rowbetween_k62_whole_turned_about s.heap && gensDone s && laidKept (boot_heap (w.withFollow "special-get-raises" false).params) s.heap,openSeen vw ["OPPOSITES"] (importedModules PySem.Challenge.pw_rowbetween_k62_whole_turned_about.main.body) xt true s,Yf s))=some (true,openGood vw ["OPPOSITES"],Ya (w.withFollow "special-get-raises" false)):=pair (yi w os) (pair (xW w os) (h w os))
theorem pO (w:World) (os:OsState):(rn (w.withFollow "special-get-raises" true) os).map (fun s=>(staticsOk (importedModules PySem.Challenge.pw_rowbetween_k62_whole_turned_about.main.body) (boot_heap (w.withFollow "special-get-raises" true).params) s.heap && namesBound PySem.Challenge.pw_rowbetween_k62_whole_turned_about s.heap && gensDone s && laidKept (boot_heap (w.withFollow "special-get-raises" true).params) s.heap,seen ((recsOf vw).map (·.name)) (ownsOf vw) [] { s with gens:=#[] },s.heap.bltView,s.heap.keysOk (looseW vw ["OPPOSITES"]) ((recsOf vw).map (·.name)) ((litsOf vw).map (·.1)) ((clssOf vw (looseW vw ["OPPOSITES"])).map (·.name)) && s.heap.accountedOkI (importedModules PySem.Challenge.pw_rowbetween_k62_whole_turned_about.main.body) && s.heap.isNs mainGlobals && s.heap.isNs builtinsNs && tablesOk vw s.heap && xt s && (if true then s.gens.size == 0 else !leftWithCleanup s.gens)))=some ((true),(expectedOf vw),(bltViewBooted),(true)):=by
 (refine pair ?_ (pair ?_ (pair ?_ ?_)));(focus (walk_at "hf"));(focus (walk_at "hf"));(focus (walk_at "hf"));(focus (walk_at "hf"))
theorem wL (w:World) (os:OsState):(rn (w.withFollow "special-get-raises" true) os).map (fun s=>staticsOk (importedModules PySem.Challenge.pw_rowbetween_k62_whole_turned_about.main.body) (boot_heap (w.withFollow "special-get-raises" true).params) s.heap && namesBound PySem.Challenge.pw_rowbetween_k62_whole_turned_about s.heap && gensDone s && laidKept (boot_heap (w.withFollow "special-get-raises" true).params) s.heap)=some (true):=(pFst (pO w os))
theorem yW (w:World) (os:OsState):(rn (w.withFollow "special-get-raises" true) os).map (fun s=>seen ((recsOf vw).map (·.name)) (ownsOf vw) [] { s with gens:=#[] })=some (expectedOf vw):=(pFst (pSnd (pO w os)))
theorem xz (w:World) (os:OsState):(rn (w.withFollow "special-get-raises" true) os).map (fun s=>s.heap.bltView)=some (bltViewBooted):=(pFst (pSnd (pSnd (pO w os))))
theorem zk (w:World) (os:OsState):(rn (w.withFollow "special-get-raises" true) os).map (fun s=>s.heap.keysOk (looseW vw ["OPPOSITES"]) ((recsOf vw).map (·.name)) ((litsOf vw).map (·.1)) ((clssOf vw (looseW vw ["OPPOSITES"])).map (·.name)) && s.heap.accountedOkI (importedModules PySem.Challenge.pw_rowbetween_k62_whole_turned_about.main.body) && s.heap.isNs mainGlobals && s.heap.isNs builtinsNs && tablesOk vw s.heap && xt s && (if true then s.gens.size == 0 else !leftWithCleanup s.gens))=some (true):=(pSnd (pSnd (pSnd (pO w os))))
theorem tG (w:World) (os:OsState):(rn (w.withFollow "special-get-raises" true) os).map (fun s=>(tabsOk vw s,pinSeenD vw (drecsOf vw) s,plainSeenE vw (looseW vw ["OPPOSITES"]) s))=some ((true),(pinGoodD (drecsOf vw)),(plainGoodE vw (looseW vw ["OPPOSITES"]))):=by
 (refine pair ?_ (pair ?_ ?_));(focus (walk_at "hf"));(focus (walk_at "hf"));(focus (walk_at "hf"))
theorem yK (w:World) (os:OsState):(rn (w.withFollow "special-get-raises" true) os).map (fun s=>tabsOk vw s)=some (true):=(pFst (tG w os))
theorem yB (w:World) (os:OsState):(rn (w.withFollow "special-get-raises" true) os).map (fun s=>pinSeenD vw (drecsOf vw) s)=some (pinGoodD (drecsOf vw)):=(pFst (pSnd (tG w os)))
theorem yp (w:World) (os:OsState):(rn (w.withFollow "special-get-raises" true) os).map (fun s=>plainSeenE vw (looseW vw ["OPPOSITES"]) s)=some (plainGoodE vw (looseW vw ["OPPOSITES"])):=(pSnd (pSnd (tG w os)))
theorem rg (w:World) (os:OsState):(rn (w.withFollow "special-get-raises" true) os).map (fun s=>(plainSeenD vw ["OPPOSITES"] s,wideSeen vw s,clsSeenW vw ["OPPOSITES"] s))=some ((plainGoodD vw ["OPPOSITES"]),(wideGood vw),(clsGoodW vw ["OPPOSITES"])):=by
 (refine pair ?_ (pair ?_ ?_));(focus (walk_at "hf"));(focus (walk_at "hf"));(focus (walk_at "hf"))
theorem yU (w:World) (os:OsState):(rn (w.withFollow "special-get-raises" true) os).map (fun s=>plainSeenD vw ["OPPOSITES"] s)=some (plainGoodD vw ["OPPOSITES"]):=(pFst (rg w os))
theorem xY (w:World) (os:OsState):(rn (w.withFollow "special-get-raises" true) os).map (fun s=>wideSeen vw s)=some (wideGood vw):=(pFst (pSnd (rg w os)))
theorem xF (w:World) (os:OsState):(rn (w.withFollow "special-get-raises" true) os).map (fun s=>clsSeenW vw ["OPPOSITES"] s)=some (clsGoodW vw ["OPPOSITES"]):=(pSnd (pSnd (rg w os)))
theorem yq (w:World) (os:OsState):(rn (w.withFollow "special-get-raises" true) os).map (fun s=>openSeen vw ["OPPOSITES"] (importedModules PySem.Challenge.pw_rowbetween_k62_whole_turned_about.main.body) xt true s)=some (openGood vw ["OPPOSITES"]):=(pair (yW w os) (pair (xz w os) (pair (zk w os) (pair (yK w os) (pair (yB w os) (pair (yp w os) (pair (yU w os) (pair (xY w os) (xF w os)))))))))
theorem all_b {α:Type} {Yf:Shared→α} {Ya:World→α} (h:∀ (w:World) (os:OsState),(rn (w.withFollow "special-get-raises" true) os).map (fun s=>Yf s)=some (Ya (w.withFollow "special-get-raises" true))) (w:World) (os:OsState) :
  (rn (w.withFollow "special-get-raises" true) os).map (fun s=>(staticsOk (importedModules PySem.Challenge.pw_rowbetween_k62_whole_turned_about.main.body) (boot_heap (w.withFollow "special-get-raises" true).params) s.heap && namesBound PySem.Challenge.pw_rowbetween_k62_whole_turned_about s.heap && gensDone s && laidKept (boot_heap (w.withFollow "special-get-raises" true).params) s.heap,openSeen vw ["OPPOSITES"] (importedModules PySem.Challenge.pw_rowbetween_k62_whole_turned_about.main.body) xt true s,Yf s))=some (true,openGood vw ["OPPOSITES"],Ya (w.withFollow "special-get-raises" true)):=pair (wL w os) (pair (yq w os) (h w os))
end Hd
structure Hd.Facts (K:PySem.W.Frag):Prop where
 q0:DL.FdK K "common_divisor" Lw.s_common_divisor
 q1:DL.FdK K "made" Lw.s_made
 q2:DL.FdK K "plus" Lw.s_plus
 q3:DL.FdK K "times" Lw.s_times
 q4:DL.FdK K "less" Lw.s_less
 q5:DL.FdK K "is_row" Lw.s_is_row
 q6:DL.FdK K "mark_names" Lw.s_mark_names
 q7:DL.FdK K "names_of" Lw.s_names_of
 q8:DL.FdK K "tops_of" Lw.s_tops_of
 q9:DL.FdK K "top_of_sum" Lw.s_top_of_sum
 q10:DL.FdK K "row_is_so" Lw.s_row_is_so
 q11:DL.FdK K "part_is_so" Lw.s_part_is_so
 q12:DL.FdK K "is_so" Lw.s_is_so
 q13:DL.FdK K "contrary" Lw.s_contrary
 q14:DL.FdK K "plain_part" Lw.s_plain_part
 q15:DL.FdK K "plain" Lw.s_plain
 q16:DL.FdK K "_law_cell" Lw.s__law_cell
 q17:DL.FdK K "put_together" Lw.s_put_together
 q18:DL.FdK K "cases_within" Lw.s_cases_within
 q19:DL.FdK K "cases" Lw.s_cases
 q20:DL.FdK K "added" Lw.s_added
 q21:DL.FdK K "weight_of" Lw.s_weight_of
 q22:DL.FdK K "alone" Lw.s_alone
 q23:DL.FdK K "shortened" Lw.s_shortened
 q24:DL.FdK K "crossed" Lw.s_crossed
 q25:DL.FdK K "without" Lw.s_without
 q26:DL.FdK K "taken_out" Lw.s_taken_out
 q27:DL.FdK K "bound_on" Lw.s_bound_on
 q28:DL.FdK K "tighter" Lw.s_tighter
 q29:DL.FdK K "number_in" Lw.s_number_in
 q30:DL.FdK K "piece_for" Lw.s_piece_for
 q31:DL.FdK K "found_back" Lw.s_found_back
 q32:DL.FdK K "solved" Lw.s_solved
 q33:DL.FdK K "both_so" Lw.s_both_so
 q34:DL.FdK K "_law_whole" Lw.s__law_whole
 q35:DL.FdK K "_law_over" Lw.s__law_over
 q36:DL.FdK K "_law_total" Lw.s__law_total
 q37:DL.FdK K "_law_row_so" Lw.s__law_row_so
 q38:DL.FdK K "_law_number" Lw.s__law_number
 q39:DL.FdK K "_law_line" Lw.s__law_line
 q40:DL.FdK K "_law_fence" Lw.s__law_fence
 q41:DL.FdK K "_law_shaped" Lw.s__law_shaped
 q42:DL.FdK K "_law_sayings" Lw.s__law_sayings
 q43:DL.FdK K "_law_so" Lw.s__law_so
 q44:DL.FdK K "_law_cases" Lw.s__law_cases
 q45:DL.FdK K "_law_weights_good" Lw.s__law_weights_good
 q46:DL.FdK K "_law_paper_good" Lw.s__law_paper_good
 q47:DL.FdK K "_law_times" Lw.s__law_times
 q48:DL.FdK K "_law_good" Lw.s__law_good
 q49:DL.FdK K "law" Lw.s_law
 z0:PySem.W.nsIn K PySem.mainGlobals "abs"=some none
 z1:PySem.W.nsIn K PySem.mainGlobals "sorted"=some none
 z2:PySem.W.nsIn K PySem.mainGlobals "tuple"=some none
 z3:PySem.W.nsIn K PySem.mainGlobals "len"=some none
 z4:PySem.W.nsIn K PySem.mainGlobals "max"=some none
 z5:PySem.W.nsIn K PySem.mainGlobals "zip"=some none
 z6:PySem.W.nsIn K PySem.mainGlobals "enumerate"=some none
 z7:PySem.W.nsIn K PySem.mainGlobals "range"=some none
 z8:PySem.W.nsIn K PySem.mainGlobals "reversed"=some none
 z9:PySem.W.nsIn K PySem.mainGlobals "dict"=some none
 z10:PySem.W.nsIn K PySem.mainGlobals "isinstance"=some none
 z11:PySem.W.nsIn K PySem.mainGlobals "bool"=some none
 z12:PySem.W.nsIn K PySem.mainGlobals "int"=some none
 g_OPPOSITES:∃ ga:PySem.Addr,PySem.W.nsIn K PySem.mainGlobals "OPPOSITES"=some (some (.ref ga))∧PyProof.Rows.KTD.tabLook (PyProof.Rows.KTD.datLooks fun b=>K.lookup b) (fun b=>K.lookup b) ga (DL.txt [("least","more"),("more","least"),("both","either"),("either","both")])=true
 g_MOST_ROWS:∃ ga:PySem.Tok,PySem.W.nsIn K PySem.mainGlobals "MOST_ROWS"=some (some (.int 3 ga))
 g_MOST_CASES:∃ ga:PySem.Tok,PySem.W.nsIn K PySem.mainGlobals "MOST_CASES"=some (some (.int 4 ga))
 g_ENDLESS:∃ (ga:PySem.Addr) (od:Option PySem.Addr) (n:Nat) (sl:Array (Option PySem.Value)),PySem.W.nsIn K PySem.mainGlobals "ENDLESS"=some (some (.ref ga))∧K.lookup ga=some ⟨.type "tuple",od,.seq #[.none,.bool false] n,sl⟩
section
open PySem PySem.W PyProof.Rows
local macro_rules | `(tactic| o_head $H) => `(tactic| (
 refine PySem.W.holds_open (r:=PySem.Challenge.rw_rowbetween_k62_whole_turned_about.row) (q:=Hd.vw) (loose:=["OPPOSITES"]) (Xt:=Hd.xt)
  (XP:=PySem.W.XL Hd.vw []) (Yf:=PySem.W.Hook.obs $H) (Ya:=PySem.W.Hook.val $H) (YP:=PySem.W.Hook.says $H) (N:=5430)
  ?_ (PySem.W.Hook.of $H) (PySem.W.Hook.keeps $H) (fun s e=>PySem.W.xl_of s (Dh.mp e).1)
  PySem.W.XL.keeps (by rfl) (by rfl) (by rfl) (fun s e=>PySem.W.recFacts_of (Dh.mp e).2)
  (by rfl) (by first | assumption | decide +kernel) (by decide +kernel) ⟨rfl,rfl,rfl,rfl,rfl,by decide +kernel⟩ ?_ ?_
 (focus (refine Hd.left ?_;refine Hd.twoRows "special-get-raises" (Hd.all_a ?_) (Hd.all_b ?_);(focus (intro w os;unfold Hd.rn Hd.st0;(try rw [PySem.W.Fast.te14082659384304107361]);(try rw [PySem.W.Fast.te14364793385576792824]);(try rw [PySem.W.Fast.te5160383126252970620]);(try rw [PySem.W.Fast.te10880121769531294198]);(try rw [PySem.W.Fast.te14722251495701143533]);(try rw [PySem.W.Fast.te10994771534591457954]);(try rw [PySem.W.Fast.te479339242167458305]);(try rw [PySem.W.Fast.te16090120013241838585]);(try rw [PySem.W.Fast.te2386780881361962483]);(try rw [PySem.W.Fast.te11698064438423848299]);(try rw [PySem.W.Fast.te7317090234206586261]);(try rw [PySem.W.Fast.te7369524293546568484]);(try rw [PySem.W.Fast.te821141287760084731]);(try rw [PySem.W.Fast.te3399658132070893891]);(try rw [PySem.W.Fast.te7409074990110511671]);(try rw [PySem.W.Fast.te13664370479719496447]);(try rw [PySem.W.Fast.te5991557255702980513]);(try rw [PySem.W.Fast.te3247288618530077131]);(try rw [PySem.W.Fast.te5923862056798008813]);kernel_rfl));(focus (intro w os;unfold Hd.rn Hd.st0;(try rw [PySem.W.Fast.te14082659384304107361]);(try rw [PySem.W.Fast.te14364793385576792824]);(try rw [PySem.W.Fast.te5160383126252970620]);(try rw [PySem.W.Fast.te10880121769531294198]);(try rw [PySem.W.Fast.te14722251495701143533]);(try rw [PySem.W.Fast.te10994771534591457954]);(try rw [PySem.W.Fast.te479339242167458305]);(try rw [PySem.W.Fast.te16090120013241838585]);(try rw [PySem.W.Fast.te2386780881361962483]);(try rw [PySem.W.Fast.te11698064438423848299]);(try rw [PySem.W.Fast.te7317090234206586261]);(try rw [PySem.W.Fast.te7369524293546568484]);(try rw [PySem.W.Fast.te821141287760084731]);(try rw [PySem.W.Fast.te3399658132070893891]);(try rw [PySem.W.Fast.te7409074990110511671]);(try rw [PySem.W.Fast.te13664370479719496447]);(try rw [PySem.W.Fast.te5991557255702980513]);(try rw [PySem.W.Fast.te3247288618530077131]);(try rw [PySem.W.Fast.te5923862056798008813]);kernel_rfl))))
 (focus w_witness2)))
set_option maxRecDepth 100000 in
set_option maxHeartbeats 0 in
theorem Hd.half (F:∀ (YP:World→Heap→Prop) (d:DefRec) (K:Params→PySem.W.Frag),(∀ (w:World) (h:Heap),YP w h→(K w.params).In h)→d.params.defaults=[]→d.name="law"→(∀ w:World,Hd.Facts (K w.params))→PySem.W.WalkO Hd.vw ["OPPOSITES"] (PySem.W.XL Hd.vw []) YP PySem.Challenge.rw_rowbetween_k62_whole_turned_about.row.toRowW d [] (fun f vs=>PySem.call f vs)):PySem.Challenge.rw_rowbetween_k62_whole_turned_about.Holds:=by
 w_on;refine PySem.W.holds_law Hd.said fun said=>?_;k_head
 k_fill
 refine F _ _ _ (fun w h Y=>PySem.W.kIn_of Y) rfl rfl fun w=>?_
 refine' ⟨?_,?_,?_,?_,?_,?_,?_,?_,?_,?_,?_,?_,?_,?_,?_,?_,?_,?_,?_,?_,?_,?_,?_,?_,?_,?_,?_,?_,?_,?_,?_,?_,?_,?_,?_,?_,?_,?_,?_,?_,?_,?_,?_,?_,?_,?_,?_,?_,?_,?_,?_,?_,?_,?_,?_,?_,?_,?_,?_,?_,?_,?_,?_,?_,?_,?_,?_⟩
 ·exact⟨⟨_,_,_,_,_,_,_,_,_,_,by k_is,by k_is,by k_is,by k_is⟩⟩
 ·exact⟨⟨_,_,_,_,_,_,_,_,_,_,by k_is,by k_is,by k_is,by k_is⟩⟩
 ·exact⟨⟨_,_,_,_,_,_,_,_,_,_,by k_is,by k_is,by k_is,by k_is⟩⟩
 ·exact⟨⟨_,_,_,_,_,_,_,_,_,_,by k_is,by k_is,by k_is,by k_is⟩⟩
 ·exact⟨⟨_,_,_,_,_,_,_,_,_,_,by k_is,by k_is,by k_is,by k_is⟩⟩
 ·exact⟨⟨_,_,_,_,_,_,_,_,_,_,by k_is,by k_is,by k_is,by k_is⟩⟩
 ·exact⟨⟨_,_,_,_,_,_,_,_,_,_,by k_is,by k_is,by k_is,by k_is⟩⟩
 ·exact⟨⟨_,_,_,_,_,_,_,_,_,_,by k_is,by k_is,by k_is,by k_is⟩⟩
 ·exact⟨⟨_,_,_,_,_,_,_,_,_,_,by k_is,by k_is,by k_is,by k_is⟩⟩
 ·exact⟨⟨_,_,_,_,_,_,_,_,_,_,by k_is,by k_is,by k_is,by k_is⟩⟩
 ·exact⟨⟨_,_,_,_,_,_,_,_,_,_,by k_is,by k_is,by k_is,by k_is⟩⟩
 ·exact⟨⟨_,_,_,_,_,_,_,_,_,_,by k_is,by k_is,by k_is,by k_is⟩⟩
 ·exact⟨⟨_,_,_,_,_,_,_,_,_,_,by k_is,by k_is,by k_is,by k_is⟩⟩
 ·exact⟨⟨_,_,_,_,_,_,_,_,_,_,by k_is,by k_is,by k_is,by k_is⟩⟩
 ·exact⟨⟨_,_,_,_,_,_,_,_,_,_,by k_is,by k_is,by k_is,by k_is⟩⟩
 ·exact⟨⟨_,_,_,_,_,_,_,_,_,_,by k_is,by k_is,by k_is,by k_is⟩⟩
 ·exact⟨⟨_,_,_,_,_,_,_,_,_,_,by k_is,by k_is,by k_is,by k_is⟩⟩
 ·exact⟨⟨_,_,_,_,_,_,_,_,_,_,by k_is,by k_is,by k_is,by k_is⟩⟩
 ·exact⟨⟨_,_,_,_,_,_,_,_,_,_,by k_is,by k_is,by k_is,by k_is⟩⟩
 ·exact⟨⟨_,_,_,_,_,_,_,_,_,_,by k_is,by k_is,by k_is,by k_is⟩⟩
 ·exact⟨⟨_,_,_,_,_,_,_,_,_,_,by k_is,by k_is,by k_is,by k_is⟩⟩
 ·exact⟨⟨_,_,_,_,_,_,_,_,_,_,by k_is,by k_is,by k_is,by k_is⟩⟩
 ·exact⟨⟨_,_,_,_,_,_,_,_,_,_,by k_is,by k_is,by k_is,by k_is⟩⟩
 ·exact⟨⟨_,_,_,_,_,_,_,_,_,_,by k_is,by k_is,by k_is,by k_is⟩⟩
 ·exact⟨⟨_,_,_,_,_,_,_,_,_,_,by k_is,by k_is,by k_is,by k_is⟩⟩
 ·exact⟨⟨_,_,_,_,_,_,_,_,_,_,by k_is,by k_is,by k_is,by k_is⟩⟩
 ·exact⟨⟨_,_,_,_,_,_,_,_,_,_,by k_is,by k_is,by k_is,by k_is⟩⟩
 ·exact⟨⟨_,_,_,_,_,_,_,_,_,_,by k_is,by k_is,by k_is,by k_is⟩⟩
 ·exact⟨⟨_,_,_,_,_,_,_,_,_,_,by k_is,by k_is,by k_is,by k_is⟩⟩
 ·exact⟨⟨_,_,_,_,_,_,_,_,_,_,by k_is,by k_is,by k_is,by k_is⟩⟩
 ·exact⟨⟨_,_,_,_,_,_,_,_,_,_,by k_is,by k_is,by k_is,by k_is⟩⟩
 ·exact⟨⟨_,_,_,_,_,_,_,_,_,_,by k_is,by k_is,by k_is,by k_is⟩⟩
 ·exact⟨⟨_,_,_,_,_,_,_,_,_,_,by k_is,by k_is,by k_is,by k_is⟩⟩
 ·exact⟨⟨_,_,_,_,_,_,_,_,_,_,by k_is,by k_is,by k_is,by k_is⟩⟩
 ·exact⟨⟨_,_,_,_,_,_,_,_,_,_,by k_is,by k_is,by k_is,by k_is⟩⟩
 ·exact⟨⟨_,_,_,_,_,_,_,_,_,_,by k_is,by k_is,by k_is,by k_is⟩⟩
 ·exact⟨⟨_,_,_,_,_,_,_,_,_,_,by k_is,by k_is,by k_is,by k_is⟩⟩
 ·exact⟨⟨_,_,_,_,_,_,_,_,_,_,by k_is,by k_is,by k_is,by k_is⟩⟩
 ·exact⟨⟨_,_,_,_,_,_,_,_,_,_,by k_is,by k_is,by k_is,by k_is⟩⟩
 ·exact⟨⟨_,_,_,_,_,_,_,_,_,_,by k_is,by k_is,by k_is,by k_is⟩⟩
 ·exact⟨⟨_,_,_,_,_,_,_,_,_,_,by k_is,by k_is,by k_is,by k_is⟩⟩
 ·exact⟨⟨_,_,_,_,_,_,_,_,_,_,by k_is,by k_is,by k_is,by k_is⟩⟩
 ·exact⟨⟨_,_,_,_,_,_,_,_,_,_,by k_is,by k_is,by k_is,by k_is⟩⟩
 ·exact⟨⟨_,_,_,_,_,_,_,_,_,_,by k_is,by k_is,by k_is,by k_is⟩⟩
 ·exact⟨⟨_,_,_,_,_,_,_,_,_,_,by k_is,by k_is,by k_is,by k_is⟩⟩
 ·exact⟨⟨_,_,_,_,_,_,_,_,_,_,by k_is,by k_is,by k_is,by k_is⟩⟩
 ·exact⟨⟨_,_,_,_,_,_,_,_,_,_,by k_is,by k_is,by k_is,by k_is⟩⟩
 ·exact⟨⟨_,_,_,_,_,_,_,_,_,_,by k_is,by k_is,by k_is,by k_is⟩⟩
 ·exact⟨⟨_,_,_,_,_,_,_,_,_,_,by k_is,by k_is,by k_is,by k_is⟩⟩
 ·exact⟨⟨_,_,_,_,_,_,_,_,_,_,by k_is,by k_is,by k_is,by k_is⟩⟩
 ·k_is
 ·k_is
 ·k_is
 ·k_is
 ·k_is
 ·k_is
 ·k_is
 ·k_is
 ·k_is
 ·k_is
 ·k_is
 ·k_is
 ·k_is
 ·exact⟨_,by k_is,by kernel_rfl⟩
 ·exact⟨_,by k_is⟩
 ·exact⟨_,by k_is⟩
 ·exact⟨_,_,_,_,by k_is,by k_is⟩
end
namespace L2
open PySem PySem.Spec PyProof.Rows
abbrev Key:=Sum Int Str
def mQ:Key→Value→Bool
 | .inl k,v=>Value.isInt k v
 | .inr x,v=>Value.isStrOf x v
def keyH (w:World):Key→Int
 | .inl k=>hashInt k
 | .inr x=>hashStr w x
theorem bm:∀ {k:Key} {v:Value},mQ k v=true→(∃ i t,k=Sum.inl i∧v=Value.int i t)∨(∃ x t,k=Sum.inr x∧v=Value.str x t)
 | .inl i,v,h=>by
  obtain ⟨t,e⟩:=Value.isInt_shape (k:=i) (v:=v) h
  exact .inl ⟨i,t,rfl,e⟩
 | .inr x,v,h=>by
  obtain ⟨t,e⟩:=Value.isStrOf_shape (x:=x) (v:=v) h
  exact .inr ⟨x,t,rfl,e⟩
theorem sr (i:Int) (t:Tok):mQ (.inl i) (.int i t)=true:=by simp [mQ,Value.isInt]
theorem rN (x:Str) (t:Tok):mQ (.inr x) (.str x t)=true:=by simp [mQ,Value.isStrOf]
theorem zT (a b:Int):decide ((Sum.inl a:Key)=Sum.inl b)=(a == b):=by
 by_cases e:a=b
 ·subst e;simp
 ·have h:¬ (Sum.inl a:Key)=Sum.inl b:=fun q=>e (Sum.inl.inj q)
  rw [decide_eq_false h]
  exact (beq_eq_false_iff_ne.mpr e).symm
theorem Ai (a b:Str):decide ((Sum.inr a:Key)=Sum.inr b)=decide (a=b):=by
 by_cases e:a=b
 ·subst e;simp
 ·have h:¬ (Sum.inr a:Key)=Sum.inr b:=fun q=>e (Sum.inr.inj q)
  rw [decide_eq_false h,decide_eq_false e]
theorem zX (a:Int) (b:Str):decide ((Sum.inl a:Key)=Sum.inr b)=false:=decide_eq_false (fun q=>nomatch q)
theorem Ac (a:Str) (b:Int):decide ((Sum.inr a:Key)=Sum.inl b)=false:=decide_eq_false (fun q=>nomatch q)
def bh (prog:Program) (w:World):PySem.KeyKind prog w Key where
 is:=mQ
 hash:=keyH w
 inj:=fun v a b ha hb=>by
  rcases bm ha with ⟨i,t,rfl,rfl⟩ | ⟨x,t,rfl,rfl⟩
  ·rcases bm hb with ⟨j,u,rfl,e⟩ | ⟨y,u,rfl,e⟩
   ·injection e with e1 _;rw [e1]
   ·exact nomatch e
  ·rcases bm hb with ⟨j,u,rfl,e⟩ | ⟨y,u,rfl,e⟩
   ·exact nomatch e
   ·injection e with e1 _;rw [e1]
 byValue:=fun k v h=>by
  rcases bm h with ⟨i,t,rfl,rfl⟩ | ⟨x,t,rfl,rfl⟩<;>rfl
 pyHash:=fun hv h=>by
  rcases bm hv with ⟨i,t,rfl,rfl⟩ | ⟨x,t,rfl,rfl⟩
  ·exact wpAny_pyHash_int h
  ·exact wpAny_pyHash_str h
 eqBool:=fun hu hv h=>by
  rcases bm hu with ⟨i,t,rfl,rfl⟩ | ⟨x,t,rfl,rfl⟩
  ·rcases bm hv with ⟨j,u,rfl,rfl⟩ | ⟨y,u,rfl,rfl⟩
   ·rw [zT] at h;exact wpAny_eqBool_int h
   ·rw [zX] at h;exact SeqAt.EqAt.int_str i t y u _ _ _ _ h
  ·rcases bm hv with ⟨j,u,rfl,rfl⟩ | ⟨y,u,rfl,rfl⟩
   ·rw [Ac] at h;exact SeqAt.EqAt.str_int x t j u _ _ _ _ h
   ·rw [Ai] at h;exact wpAny_eqBool_str h
 «strs»:=fun k x t v h=>by
  rcases bm h with ⟨i,u,rfl,e⟩ | ⟨y,u,rfl,e⟩
  ·exact nomatch e
  ·injection e with e1 _
   subst e1
   cases v<;>rfl
theorem m5 (prog:Program) (w:World) (i:Int) (t:Tok):(bh prog w).is (.inl i) (.int i t)=true:=sr i t
theorem nO (prog:Program) (w:World) (x:Str) (t:Tok):(bh prog w).is (.inr x) (.str x t)=true:=rN x t
end L2
namespace L2
open PySem PySem.Spec PyProof.Rows
inductive V where
 | non | bl (b:Bool) | int (i:Int) | str (x:Str) | byt (b:Array UInt8) | flt (b:UInt64) | ref (a:Addr) | ty (n:String)
 deriving DecidableEq
def RelV:V→Value→Prop
 | .non,u=>u=Value.none
 | .bl b,u=>u=Value.bool b
 | .int i,u=>∃ t,u=Value.int i t
 | .str x,u=>∃ t,u=Value.str x t
 | .byt b,u=>∃ t,u=Value.bytes b t
 | .flt b,u=>∃ t,u=Value.float b t
 | .ref a,u=>u=Value.ref a
 | .ty n,u=>u=Value.type n
abbrev Vals:List V→List Value→Prop:=Paired RelV
theorem Vals.length {xs:List V} {us:List Value} (r:Vals xs us):xs.length=us.length:=Paired.length r
theorem Vals.get:∀ {xs:List V} {us:List Value} {i:Nat} {x:V},Vals xs us→xs[i]?=some x→∃ u,us[i]?=some u∧RelV x u
 | _,_,_,_,.nil,e=>by simp at e
 | _,_,0,_,.cons r _,e=>by simp at e;subst e;exact⟨_,rfl,r⟩
 | _,_,i + 1,x,.cons _ t,e=>by
  obtain ⟨u,h1,h2⟩:=Vals.get (i:=i) (x:=x) t (by simpa using e)
  exact⟨u,by simpa using h1,h2⟩
theorem Vals.append:∀ {xs ys:List V} {us ws:List Value},Vals xs us→Vals ys ws→Vals (xs++ys) (us++ws)
 | _,_,_,_,.nil,s=>s
 | _,_,_,_,.cons r t,s=>.cons r (Vals.append t s)
theorem Vals.take:∀ {xs:List V} {us:List Value} (n:Nat),Vals xs us→Vals (xs.take n) (us.take n)
 | _,_,0,_=>.nil
 | _,_,_ + 1,.nil=>.nil
 | _,_,n + 1,.cons r t=>.cons r (Vals.take n t)
theorem Vals.drop:∀ {xs:List V} {us:List Value} (n:Nat),Vals xs us→Vals (xs.drop n) (us.drop n)
 | _,_,0,r=>r
 | _,_,_ + 1,.nil=>.nil
 | _,_,n + 1,.cons _ t=>Vals.drop n t
def RelO:Option V→Option Value→Prop
 | some v,some u=>RelV v u
 | none,none=>True
 | _,_=>False
def KV {κ:Type}:List (κ×V)→List (κ×Value)→Prop:=Paired fun (p:κ×V) (q:κ×Value)=>p.1=q.1∧RelV p.2 q.2
def kV:Key→V
 | .inl i=>.int i
 | .inr x=>.str x
inductive HO where
 | lst (xs:List V)
 | tup (xs:List V)
 | dK (kvs:List (Key×V)) | dT (kvs:List (List Key×V))
 | set (S:Int→Bool) (n:Nat)
 | ins (C dx:Addr) (fs:List (Str×V))
 | own (x:Addr)
 | xd (fs:List (Str×V))
 | met (f x:Addr)
 | rng (lo hi:Int)
 | frz (o:Obj) (u:HO)
 | tbl (ps:Array Value)
 | ext (φ:Heap→Prop)
abbrev Hp:=Addr→Option HO
def upd (H:Hp) (a:Addr) (o:HO):Hp:=fun b=>if b=a then some o else H b
theorem aI {H:Hp} {a:Addr} {o:HO}:upd H a o a=some o:=by unfold upd;rw [if_pos rfl]
theorem aO {H:Hp} {a b:Addr} {o:HO} (h:b≠a):upd H a o b=H b:=by unfold upd;rw [if_neg h]
theorem CD {H:Hp} {a b:Addr} {o u:HO} (h:H a=some o) (h':H b=some u) (d:o≠u):a≠b:=by
 intro e;subst e;rw [h] at h';exact d (Option.some.inj h')
theorem cU {H:Hp} {a b:Addr} {o:HO} (h:H a=some o) (h':H b=none):a≠b:=by
 intro e;subst e;rw [h] at h';cases h'
section
variable (P:Program) (w:World)
def cc (H:Hp) (h:Heap) (a:Addr):HO→Prop
 | .lst xs=>xs.length≤sizeLine∧∃ (its:List Value) (n:Nat),Vals xs its∧h.get? a=some { cls:=.type "list",data:=.seq its.toArray n }
 | .tup xs=>xs.length≤sizeLine∧∃ its:List Value,Vals xs its∧IsTup h a its.toArray
 | .dK kvs=>kvs.length≤sizeLine∧(a == sysModules)=false∧∃ vs,KV kvs vs∧h.DictOf (bh P w) a vs
 | .dT kvs=>kvs.length≤sizeLine∧(a == sysModules)=false∧∃ xs:List (List Key×Addr×Value),
   Paired (fun (p:List Key×V) (q:List Key×Addr×Value)=>p.1=q.1∧H q.2.1=some (.tup (p.1.map kV))∧RelV p.2 q.2.2) kvs xs ∧
   ∃ o es ep,h.get? a=some o∧o.ExactDict∧o.data=.dict es ep∧es.toList=xs.map (entryOfKey (tupleKind (bh P w)))∧(xs.map (·.1)).Nodup
 | .set S n=>h.SetOf (intKind P w) a S n
 | .ins C dx fs=>H dx=some (.own a)∧fs.length≤1000∧dx≠a∧h.get? a=some (PySem.W.instObj C dx) ∧
   ∃ mA,h.Ns1 dx mA∧(∀ f,RelO (fs.lookup f) (mA f))∧PySem.Within mA (fs.map (·.1))
 | .own _=>∃ o,h.get? a=some o
 | .xd fs=>∃ mA,h.Ns1 a mA∧∀ f,RelO (fs.lookup f) (mA f)
 | .rng lo hi=>∃ t u v,h.get? a=some { cls:=.type "range",data:=.fields #[.int lo t,.int hi u,.int 1 v] }
 | .frz o u=>h.get? a=some o∧cc H h a u
 | .tbl ps=>h.get? a=some { cls:=.none,data:=.fields ps }
 | .met f x=>h.get? a=some (PySem.W.methodObj (.ref f) (.ref x))
 | .ext φ=>φ h∧(∃ o,h.get? a=some o)∧∀ h1 h2:Heap,φ h1→(∀ o,h1.get? a=some o→h2.get? a=some o)→φ h2
def HOk (H:Hp) (h:Heap):Prop:=∀ a o,H a=some o→cc P w H h a o
end
section
variable {P:Program} {w:World} {H H':Hp} {h h':Heap} {a:Addr} {o:HO}
theorem cc.lt (x:cc P w H h a o):a < h.objs.size:=by
 cases o with
 | lst xs=>obtain ⟨_,_,_,_,e⟩:=x;exact Heap.lt_size e
 | tup xs=>obtain ⟨_,_,_,p⟩:=x;exact p.lt
 | dK kvs=>obtain ⟨_,_,_,_,o,_,_,e,_⟩:=x;exact Heap.lt_size e
 | dT kvs=>obtain ⟨_,_,_,_,o,_,_,e,_⟩:=x;exact Heap.lt_size e
 | set S n=>obtain ⟨o,_,_,_,e,_⟩:=x;exact Heap.lt_size e
 | ins C dx fs=>obtain ⟨_,_,_,e,_⟩:=x;exact Heap.lt_size e
 | own y=>obtain ⟨_,e⟩:=x;exact Heap.lt_size e
 | xd fs=>obtain ⟨_,⟨_,_,_,e,_⟩,_⟩:=x;exact Heap.lt_size e
 | rng lo hi=>obtain ⟨_,_,_,e⟩:=x;exact Heap.lt_size e
 | frz ob u=>obtain ⟨e,_⟩:=x;exact Heap.lt_size e
 | tbl ps=>exact Heap.lt_size (show h.get? a=some _ from x)
 | met f y=>exact Heap.lt_size (show h.get? a=some _ from x)
 | ext φ=>obtain ⟨_,⟨_,e⟩,_⟩:=x;exact Heap.lt_size e
theorem Paired.mapP {α β:Type} {F G:α→β→Prop}:∀ {l₁:List α} {l₂:List β},Paired F l₁ l₂→(∀ a b,F a b→G a b)→Paired G l₁ l₂
 | _,_,.nil,_=>.nil
 | _,_,.cons r t,f=>.cons (f _ _ r) (Paired.mapP t f)
theorem cc.stay (x:cc P w H h a o) (k:∀ b u,(b=a∨H b=some (.own a))→h.get? b=some u→h'.get? b=some u)
  (ho:∀ b,H b=some (.own a)→H' b=some (.own a)) (ht:∀ b xs,H b=some (.tup xs)→H' b=some (.tup xs)):cc P w H' h' a o:=by
 induction o with
 | lst xs=>obtain ⟨z,its,n,r,e⟩:=x;exact⟨z,its,n,r,k _ _ (.inl rfl) e⟩
 | tup xs=>obtain ⟨z,its,r,ob,e,c⟩:=x;exact⟨z,its,r,ob,k _ _ (.inl rfl) e,c⟩
 | dK kvs=>obtain ⟨z,y,vs,r,ob,es,ep,e,c⟩:=x;exact⟨z,y,vs,r,ob,es,ep,k _ _ (.inl rfl) e,c⟩
 | dT kvs =>
  obtain ⟨z,y,xs,r,ob,es,ep,e,c⟩:=x
  exact⟨z,y,xs,Paired.mapP r fun p q z=>⟨z.1,ht _ _ z.2.1,z.2.2⟩,ob,es,ep,k _ _ (.inl rfl) e,c⟩
 | set S n=>obtain ⟨ob,es,ep,t,e,c⟩:=x;exact⟨ob,es,ep,t,k _ _ (.inl rfl) e,c⟩
 | ins C dx fs =>
  obtain ⟨d,z,ne,e,mA,⟨od,es,ep,e2,c⟩,r⟩:=x
  exact⟨ho _ d,z,ne,k _ _ (.inl rfl) e,mA,⟨od,es,ep,k _ _ (.inr d) e2,c⟩,r⟩
 | own y=>obtain ⟨ob,e⟩:=x;exact⟨ob,k _ _ (.inl rfl) e⟩
 | xd fs=>obtain ⟨mA,⟨od,es,ep,e,c⟩,r⟩:=x;exact⟨mA,⟨od,es,ep,k _ _ (.inl rfl) e,c⟩,r⟩
 | rng lo hi=>obtain ⟨t,u,v,e⟩:=x;exact⟨t,u,v,k _ _ (.inl rfl) e⟩
 | frz ob u ih=>obtain ⟨e,q⟩:=x;exact⟨k _ _ (.inl rfl) e,ih q⟩
 | tbl ps =>
  have e:h.get? a=some { cls:=.none,data:=.fields ps }:=x
  show h'.get? a=some { cls:=.none,data:=.fields ps }
  exact k a _ (.inl rfl) e
 | met f y =>
  have e:h.get? a=some (PySem.W.methodObj (.ref f) (.ref y)):=x
  show h'.get? a=some (PySem.W.methodObj (.ref f) (.ref y))
  exact k a _ (.inl rfl) e
 | ext φ=>obtain ⟨p,⟨o,e⟩,st⟩:=x;exact⟨st _ _ p fun o q=>k _ _ (.inl rfl) q,⟨o,k _ _ (.inl rfl) e⟩,st⟩
theorem HOk.lt (x:HOk P w H h) (e:H a=some o):a < h.objs.size:=(x a o e).lt
theorem HOk.fresh (x:HOk P w H h) (e:h.objs.size≤a):H a=none:=by
 cases q:H a with
 | none=>rfl
 | some u=>exact absurd (Nat.lt_of_lt_of_le (x.lt q) e) (Nat.lt_irrefl _)
theorem HOk.kept (x:HOk P w H h) (k:∀ b u,h.get? b=some u→h'.get? b=some u):HOk P w H h':=fun a o e =>
 (x a o e).stay (fun b u _ q=>k b u q) (fun _ q=>q) fun _ _ q=>q
theorem HOk.laid (x:HOk P w H h) (k:∀ b u,h.get? b=some u→h'.get? b=some u) (hp:h.objs.size≤a) (new:cc P w (upd H a o) h' a o):HOk P w (upd H a o) h':=fun b u e=>by
 have hn:=x.fresh hp
 by_cases hb:b=a
 ·subst hb;rw [aI] at e;cases e;exact new
 ·rw [aO hb] at e
  exact (x b u e).stay (fun c v _ q=>k c v q) (fun c q=>by rw [aO (cU q hn)];exact q) fun c xs q=>by rw [aO (cU q hn)];exact q
end
def Rd (H:Hp) (a:Addr) (u:HO):Prop:=H a=some u∨∃ o,H a=some (.frz o u)
theorem Rd.of {H:Hp} {a:Addr} {u:HO} (h:H a=some u):Rd H a u:=.inl h
theorem Rd.ok {P:Program} {w:World} {H:Hp} {h:Heap} {a:Addr} {u:HO} (r:Rd H a u) (x:HOk P w H h):cc P w H h a u:=by
 rcases r with r | ⟨o,r⟩
 ·exact x a u r
 ·obtain ⟨_,q⟩:=x a _ r
  exact q
def Mut:Option HO→Prop
 | some (.lst _)=>True
 | some (.dK _)=>True
 | some (.dT _)=>True
 | some (.set _ _)=>True
 | some (.ins _ _ _)=>True
 | some (.ext _)=>True
 | _=>False
section
variable {P:Program} {w:World} {H:Hp} {h h':Heap} {x e:Addr} {o':HO}
theorem HOk.write (ok:HOk P w H h) (mu:Mut (H x)) (he:e=x∨H e=some (.own x)) (k:∀ b u,b≠e→h.get? b=some u→h'.get? b=some u) (heo:∃ u,h'.get? e=some u)
  (new:cc P w (upd H x o') h' x o'):HOk P w (upd H x o') h':=fun b u q=>by
 have nown:∀ c y,H c=some (.own y)→c≠x:=fun c y r z=>by subst z;rw [r] at mu;exact mu
 have ntup:∀ c xs,H c=some (.tup xs)→c≠x:=fun c xs r z=>by subst z;rw [r] at mu;exact mu
 by_cases hb:b=x
 ·subst hb;rw [aI] at q;cases q;exact new
 ·rw [aO hb] at q
  by_cases hbe:b=e
  ·have q':H b=some (.own x):=by
    rcases he with z | z
    ·exact absurd (hbe.trans z) hb
    ·rw [hbe];exact z
   rw [q] at q';cases q'
   obtain ⟨v,hv⟩:=heo
   exact⟨v,by rw [hbe];exact hv⟩
  ·refine (ok b u q).stay (fun c v hc r=>k c v ?_ r) (fun c r=>by rw [aO (nown c b r)];exact r) fun c xs r=>by rw [aO (ntup c xs r)];exact r
   rcases hc with rfl | hc
   ·exact hbe
   ·rintro rfl
    rcases he with z | z
    ·exact nown c b hc z
    ·rw [hc] at z;cases z;exact hb rfl
end
structure Un (fs ex:List Addr) (H H':Hp) (h h':Heap):Prop where
 keep:∀ b o,h.get? b=some o→H b=none→b∉fs→b∉ex→h'.get? b=some o
 slot:∀ b o,h.get? b=some o→H b=none→b∈fs→b∉ex→∃ sl,h'.get? b=some { o with slots:=sl }
 free:∀ b o,h.get? b=some o→H b=none→b∉ex→H' b=none
 there:∀ b o,h.get? b=some o→b∉ex→∃ o',h'.get? b=some o'
 tups:∀ b xs,H b=some (.tup xs)→H' b=some (.tup xs)
 frzs:∀ b o u,H b=some (.frz o u)→H' b=some (.frz o u)
 tbls:∀ b ps,H b=some (.tbl ps)→∃ more,H' b=some (.tbl (ps++more))
section
variable {fs fs' ex ex':List Addr} {H H1 H2:Hp} {h h1 h2 h':Heap} {a x e:Addr} {o:HO}
theorem Un.any (u:Un fs ex H H1 h h1) {b:Addr} {ob:Obj} (q:h.get? b=some ob) (n:H b=none) (hx:b∉ex):∃ sl,h1.get? b=some { ob with slots:=sl }:=by
 by_cases hb:b∈fs
 ·exact u.slot b ob q n hb hx
 ·exact⟨ob.slots,u.keep b ob q n hb hx⟩
theorem Un.trans (a:Un fs ex H H1 h h1) (b:Un fs ex H1 H2 h1 h2):Un fs ex H H2 h h2 where
 keep:=fun c ob q n hc hx=>b.keep c ob (a.keep c ob q n hc hx) (a.free c ob q n hx) hc hx
 slot:=fun c ob q n hc hx=>by
  obtain ⟨sl,e1⟩:=a.slot c ob q n hc hx
  obtain ⟨sl',e2⟩:=b.slot c _ e1 (a.free c ob q n hx) hc hx
  exact⟨sl',e2⟩
 free:=fun c ob q n hx=>by
  obtain ⟨o',e1⟩:=a.there c ob q hx
  exact b.free c o' e1 (a.free c ob q n hx) hx
 there:=fun c ob q hx=>by
  obtain ⟨o',e1⟩:=a.there c ob q hx
  exact b.there c o' e1 hx
 tups:=fun c xs q=>b.tups c xs (a.tups c xs q)
 frzs:=fun c ob xs q=>b.frzs c ob xs (a.frzs c ob xs q)
 tbls:=fun c ps q=>by
  obtain ⟨m1,e1⟩:=a.tbls c ps q
  obtain ⟨m2,e2⟩:=b.tbls c _ e1
  exact⟨m1++m2,by rw [e2,Array.append_assoc]⟩
theorem Un.kept (k:∀ b u,h.get? b=some u→h'.get? b=some u):Un fs ex H H h h' :=
 ⟨fun b ob q _ _ _=>k b ob q,fun b ob q _ _ _=>⟨ob.slots,k b ob q⟩,fun _ _ _ n _=>n,fun b ob q _=>⟨ob,k b ob q⟩,fun _ _ q=>q,fun _ _ _ q=>q,fun _ ps q=>⟨#[],by rw [q];simp⟩⟩
theorem Un.refl:Un fs ex H H h h:=Un.kept fun _ _ q=>q
theorem Un.laid (k:∀ b u,h.get? b=some u→h'.get? b=some u) (hp:h.objs.size≤a) (hn:H a=none):Un fs ex H (upd H a o) h h' where
 keep:=fun b u q _ _ _=>k b u q
 slot:=fun b u q _ _ _=>⟨u.slots,k b u q⟩
 free:=fun b u q n _=>by rw [aO (Nat.ne_of_lt (Nat.lt_of_lt_of_le (Heap.lt_size q) hp))];exact n
 there:=fun b u q _=>⟨u,k b u q⟩
 tups:=fun b xs q=>by rw [aO (cU q hn)];exact q
 frzs:=fun b u xs q=>by rw [aO (cU q hn)];exact q
 tbls:=fun b ps q=>⟨#[],by rw [aO (cU q hn),q];simp⟩
theorem Un.write (mu:Mut (H x)) (he:e=x∨H e=some (.own x)) (k:∀ b u,b≠e→h.get? b=some u→h'.get? b=some u) (heo:∃ u,h'.get? e=some u):Un fs ex H (upd H x o) h h':=by
 have hx:∀ b,H b=none→b≠x:=fun b n z=>by subst z;rw [n] at mu;exact mu
 have hb:∀ b,H b=none→b≠e:=fun b n z=>by
  subst z
  rcases he with r | r
  ·exact hx b n r
  ·rw [n] at r;cases r
 have hm:∀ b u,H b=some u→¬ Mut (some u)→b≠x:=fun b u q nm z=>by subst z;rw [q] at mu;exact nm mu
 refine⟨fun b u q n _ _=>k b u (hb b n) q,fun b u q n _ _=>⟨u.slots,k b u (hb b n) q⟩,fun b u q n _=>by rw [aO (hx b n)];exact n,fun b u q _=>?_,
  fun b xs q=>by rw [aO (hm b _ q fun z=>z)];exact q,fun b u xs q=>by rw [aO (hm b _ q fun z=>z)];exact q,fun b ps q=>⟨#[],by rw [aO (hm b _ q fun z=>z),q];simp⟩⟩
 by_cases hbe:b=e
 ·subst hbe;exact heo
 ·exact⟨u,k b u hbe q⟩
theorem Un.mono (u:Un fs ex H H1 h h1) (hs:∀ b∈fs,b∈fs') (hx:∀ b∈ex,b∈ex'):Un fs' ex' H H1 h h1 :=
 ⟨fun b ob q n hb he=>u.keep b ob q n (fun z=>hb (hs b z)) fun z=>he (hx b z),fun _ _ q n _ he=>u.any q n fun z=>he (hx _ z),fun b ob q n he=>u.free b ob q n fun z=>he (hx b z),fun b ob q he=>u.there b ob q fun z=>he (hx b z),u.tups,u.frzs,u.tbls⟩
end
def trk (h:Heap) (H:Hp):List Addr:=(List.range h.objs.size).filter fun a=>(H a).isSome
def hidT (h:Heap) (H:Hp):Heap:=PySem.W.hideAll h (trk h H)
theorem tJ (h:Heap) (H:Hp):(hidT h H).objs.size=h.objs.size:=PySem.W.hideAll_size _ _
theorem vM {h:Heap} {H:Hp} {b:Addr} {o:Obj} (e:h.get? b=some o) (n:H b=none):(hidT h H).get? b=some o :=
 PySem.W.hideAll_get _ e fun hm=>by
  have q:(H b).isSome=true:=(C5.mp hm).2
  rw [n] at q;simp at q
theorem wR {h:Heap} {H:Hp} {b:Addr} {o:Obj} (e:(hidT h H).get? b=some o):h.get? b=some o∧H b=none:=by
 have e':h.get? b=some o:=PySem.W.of_hideAll (trk h H) e
 refine⟨e',?_⟩
 cases q:H b with
 | none=>rfl
 | some x =>
  have hm:b∈trk h H:=C5.mpr ⟨List.mem_range.mpr (Heap.lt_size e'),by simp [q]⟩
  have z:(hidT h H).get? b=none:=PySem.W.hideAll_none (trk h H) hm
  rw [z] at e;cases e
def yf (g h:Heap) (L:Addr):List (Addr×Obj):=(List.range h.objs.size).filterMap fun a=>if a=L∨(g.get? a).isSome=true then none else (h.get? a).map fun o=>(a,o)
def rest (g h:Heap) (L d:Addr):List (Addr×Obj):=(yf g h L).filter fun p=>decide (p.1≠d)
end L2
namespace L2
open PySem PySem.Spec PyProof.Rows
structure Mod (K:PySem.W.Frag) (mg:Str→Option Value) (base:Heap):Prop where
 kin:K.In base
 glob:base.Ns mainGlobals mg
 blt:∃ mb,base.Ns builtinsNs mb∧∀ x:Str,x≠"__name__"→mb x=bootBuiltins x
 nolimit:base.NoLimit
structure Cx where
 prog:Program
 w:World
 K:PySem.W.Frag
 mg:Str→Option Value
 base:Heap
 A:Around
 N:List Str
 s₀:Shared
 H₀:Hp
 env:Env
 outer:List Env
 stack:List Env
 ex:List Addr
 fn:Str→Bool
 calm:Bool
 pn:List (Addr×Obj)
 xe:Value→Shared→Prop
def frs (l:List Env):List Addr:=l.filterMap (·.frame)
abbrev Cx.fs (X:Cx):List Addr:=frs X.outer
def Vis (sc:Scope) (x:Str):Prop:=sc.names.lookup x=some .local∨sc.names.lookup x=some .cell∨sc.names.lookup x=some .free
def Loc (sc:Scope) (x:Str):Prop:=sc.names.lookup x=some .local∨sc.names.lookup x=some .cell
def Look (env:Env) (h:Heap) (m:Str→Option Value) (x:Str) (u:Value):Prop :=
 (env.kindOf x=some .local∧m x=some u)∨((env.kindOf x=some .cell∨env.kindOf x=some .free)∧∃ c,env.cells.lookup x=some c∧h.IsCell c (some u))
structure Cx.Ok (X:Cx):Prop where
 mod:Mod X.K X.mg X.base
 kind:X.env.scope.kind=.function
 glob:X.env.globals=mainGlobals
 blt:X.env.builtins=builtinsNs
 above:X.s₀.heap.objs.size≤X.env.locals
 inj:∀ x y c,X.env.cells.lookup x=some c→X.env.cells.lookup y=some c→x=y
 has:∀ x,(X.env.kindOf x=some .cell∨X.env.kindOf x=some .free)→∃ c,X.env.cells.lookup x=some c
 cab:∀ x c,X.fn x=true→X.env.cells.lookup x=some c→X.s₀.heap.objs.size≤c
 hd:X.calm=true→X.A.handled=none
 frames:X.A.frames=some X.stack
 stk:X.stack=X.outer∨(X.stack=X.env :: X.outer∧X.env.frame=some X.env.locals)
 exf:∀ b∈X.ex,b≠X.env.locals∧∀ x c,X.env.cells.lookup x=some c→c≠b
 bs:∀ b o,X.base.get? b=some o→X.s₀.heap.get? b=some o∧X.H₀ b=none
 bsz:X.base.objs.size≤X.s₀.heap.objs.size
 noex:∀ b o,X.base.get? b=some o→b∉X.ex
 exfs:∀ b∈X.ex,b∉X.fs
 funs:X.s₀.heap.FunFrames X.base X.outer
 frf:∀ b∈X.fs,X.H₀ b=none
structure Inv (X:Cx) (pins:List (Addr×Obj)) (σ:List (Option V)) (H:Hp) (s:Shared):Prop where
 ok:X.Ok
 os:s.os=X.s₀.os
 bare:AllBare s.gens
 base:Un X.fs X.ex X.H₀ H X.s₀.heap s.heap
 loc:∃ m,s.heap.Ns X.env.locals m∧∀ (i:Nat) (x:Str) (v:V),X.N[i]?=some x→σ[i]?=some (some v)→Vis X.env.scope x→∃ u,RelV v u∧Look X.env s.heap m x u
 cell:∀ x c,X.env.cells.lookup x=some c→∃ v,s.heap.IsCell c v
 free:H X.env.locals=none
 freeC:∀ x c,X.env.cells.lookup x=some c→H c=none
 pin:∀ p∈X.pn++pins,s.heap.get? p.1=some p.2∧H p.1=none∧p.1≠X.env.locals∧p.1∉X.fs∧∀ v,p.2.data≠.cell v
 hok:HOk X.prog X.w H s.heap
 len:σ.length=X.N.length
section
variable {X:Cx} {pins:List (Addr×Obj)} {σ:List (Option V)} {H H':Hp} {s:Shared} {h':Heap}
theorem Cx.Ok.nofr (ok:X.Ok) {b:Addr} {o:Obj} (e:X.base.get? b=some o):b∉X.fs:=fun hb=>by
 have:=(ok.funs.mem hb).1
 rw [e] at this;cases this
theorem Inv.bs (I:Inv X pins σ H s):∀ b o,X.base.get? b=some o→s.heap.get? b=some o∧H b=none:=fun b o e =>
 ⟨I.base.keep b o (I.ok.bs b o e).1 (I.ok.bs b o e).2 (I.ok.nofr e) (I.ok.noex b o e),I.base.free b o (I.ok.bs b o e).1 (I.ok.bs b o e).2 (I.ok.noex b o e)⟩
theorem Inv.bk (I:Inv X pins σ H s):∀ b o,X.base.get? b=some o→s.heap.get? b=some o:=fun b o e=>(I.bs b o e).1
theorem Inv.mod (I:Inv X pins σ H s):Mod X.K X.mg X.base:=I.ok.mod
theorem Inv.kIn (I:Inv X pins σ H s):X.K.In s.heap:=I.ok.mod.kin.keeps I.bk
theorem Inv.lt (I:Inv X pins σ H s):X.env.locals < s.heap.objs.size:=let ⟨_,hn,_⟩:=I.loc;hn.lt
theorem Inv.sz (I:Inv X pins σ H s):X.s₀.heap.objs.size≤s.heap.objs.size:=CN I.ok.above (Nat.le_of_lt I.lt)
theorem Inv.nofs (I:Inv X pins σ H s) {a:Addr} (h:s.heap.objs.size≤a):a∉X.fs:=fun hb=>by
 obtain ⟨_,o,ho,_⟩:=I.ok.funs.mem hb
 exact absurd (Nat.lt_of_lt_of_le (Heap.lt_size ho) (CN I.sz h)) (Nat.lt_irrefl _)
theorem Inv.cne (I:Inv X pins σ H s):∀ x c,X.env.cells.lookup x=some c→c≠X.env.locals:=fun x c e z=>by
 obtain ⟨v,o,ho,hd⟩:=I.cell x c e
 obtain ⟨m,⟨o',es,ep,ho',hd',_⟩,_⟩:=I.loc
 rw [z,ho'] at ho;cases ho;rw [hd'] at hd;cases hd
theorem Inv.funs (I:Inv X pins σ H s):s.heap.FunFrames X.base X.outer:=by
 have all:∀ (l:List Env),(∀ b∈frs l,b∈X.fs)→X.s₀.heap.FunFrames X.base l→s.heap.FunFrames X.base l:=by
  intro l
  induction l with
  | nil=>intro _ _;trivial
  | cons env r ih =>
   intro hs hl
   obtain ⟨hk,⟨L,o,hf,hn,ho,hd⟩,hr⟩:=hl
   have hL:L∈X.fs:=hs L (by unfold frs;rw [List.filterMap_cons,hf];exact CP)
   obtain ⟨sl,e⟩:=I.base.slot L o ho (I.ok.frf L hL) hL fun z=>I.ok.exfs L z hL
   exact⟨hk,⟨L,_,hf,hn,e,hd⟩,ih (fun b hb=>hs b (by unfold frs;rw [List.filterMap_cons,hf];exact CL _ hb)) hr⟩
 exact all X.outer (fun _ hb=>hb) I.ok.funs
theorem Inv.stack (I:Inv X pins σ H s):s.heap.FunFrames X.base X.stack:=by
 rcases I.ok.stk with e | ⟨e,hf⟩
 ·rw [e];exact I.funs
 ·rw [e]
  obtain ⟨m,hn,_⟩:=I.loc
  refine .cons (by rw [I.ok.kind];decide) hf hn ?_ I.funs
  exact Heap.get?_none_of_le (CN I.ok.bsz I.ok.above)
theorem Inv.stkSub (I:Inv X pins σ H s):∀ b∈frs X.stack,b∈X.env.locals :: X.fs:=fun b hb=>by
 rcases I.ok.stk with e | ⟨e,hf⟩
 ·rw [e] at hb;exact CL _ hb
 ·rw [e] at hb
  unfold frs at hb
  rw [List.filterMap_cons,hf] at hb
  exact hb
theorem Inv.stkFree (I:Inv X pins σ H s):∀ b∈frs X.stack,H b=none:=fun b hb=>by
 rcases CQ.mp (I.stkSub b hb) with e | hb
 ·rw [e];exact I.free
 ·obtain ⟨_,o,ho,_⟩:=I.ok.funs.mem hb
  exact I.base.free b o ho (I.ok.frf b hb) fun z=>I.ok.exfs b z hb
theorem Inv.step {g':Array GenState} {t':Nat} {d':Drawn} {ch:List Addr} (I:Inv X pins σ H s)
  (hch:∀ b∈ch,(b∈X.ex∨X.s₀.heap.objs.size≤b)∧b≠X.env.locals∧(∀ x c,X.env.cells.lookup x=some c→c≠b)∧∀ p∈X.pn++pins,p.1≠b)
  (keep:∀ b o,b≠X.env.locals→b∉X.fs→b∉ch→s.heap.get? b=some o→H b=none→h'.get? b=some o)
  (slot:∀ b o,b≠X.env.locals→b∈X.fs→b∉ch→s.heap.get? b=some o→H b=none→∃ sl,h'.get? b=some { o with slots:=sl }) (free:∀ b o,b∉ch→s.heap.get? b=some o→H b=none→H' b=none)
  (there:∀ b o,b∉ch→s.heap.get? b=some o→∃ o',h'.get? b=some o')
  (tups:∀ b xs,H b=some (.tup xs)→H' b=some (.tup xs)) (frzs:∀ b o u,H b=some (.frz o u)→H' b=some (.frz o u)) (tbls:∀ b ps,H b=some (.tbl ps)→∃ more,H' b=some (.tbl (ps++more)))
  (ns:∀ m,s.heap.Ns X.env.locals m→h'.Ns X.env.locals m) (hok:HOk X.prog X.w H' h') (hg:AllBare g') :
  Inv X pins σ H' { s with heap:=h',gens:=g',drawn:=d',toks:=t' }:=by
 have neL:∀ b o,X.s₀.heap.get? b=some o→b≠X.env.locals:=fun b o e=>Nat.ne_of_lt (Nat.lt_of_lt_of_le (Heap.lt_size e) I.ok.above)
 have neC:∀ b o,X.s₀.heap.get? b=some o→b∉X.ex→b∉ch:=fun b o e hx hb=>by
  rcases (hch b hb).1 with z | z
  ·exact hx z
  ·exact absurd (Nat.lt_of_lt_of_le (Heap.lt_size e) z) (Nat.lt_irrefl _)
 have cellK:∀ x c,X.env.cells.lookup x=some c→∀ v,s.heap.IsCell c v→h'.IsCell c v:=fun x c e v h_0=>by
  obtain ⟨o,ho,hd⟩:=h_0
  have nch:c∉ch:=fun z=>(hch c z).2.2.1 x c e rfl
  by_cases hc:c∈X.fs
  ·obtain ⟨sl,q⟩:=slot c o (I.cne x c e) hc nch ho (I.freeC x c e)
   exact⟨_,q,hd⟩
  ·exact⟨o,keep c o (I.cne x c e) hc nch ho (I.freeC x c e),hd⟩
 refine⟨I.ok,I.os,hg,⟨fun b o e n hb hx=>?_,fun b o e n hb hx=>?_,fun b o e n hx=>?_,fun b o e hx=>?_,fun b xs e=>tups b xs (I.base.tups b xs e),fun b o xs e=>frzs b o xs (I.base.frzs b o xs e),fun b ps e=>?_⟩,?_,fun x c e=>?_,?_,fun x c e=>?_,fun p hp=>?_,hok,I.len⟩
 ·exact keep b o (neL b o e) hb (neC b o e hx) (I.base.keep b o e n hb hx) (I.base.free b o e n hx)
 ·obtain ⟨sl,e1⟩:=I.base.slot b o e n hb hx
  obtain ⟨sl',e2⟩:=slot b _ (neL b o e) hb (neC b o e hx) e1 (I.base.free b o e n hx)
  exact⟨sl',e2⟩
 ·obtain ⟨o',e1⟩:=I.base.there b o e hx
  exact free b o' (neC b o e hx) e1 (I.base.free b o e n hx)
 ·obtain ⟨o',e1⟩:=I.base.there b o e hx
  exact there b o' (neC b o e hx) e1
 ·obtain ⟨m1,e1⟩:=I.base.tbls b ps e
  obtain ⟨m2,e2⟩:=tbls b _ e1
  exact⟨m1++m2,by rw [e2,Array.append_assoc]⟩
 ·obtain ⟨m,hn,hl⟩:=I.loc
  refine⟨m,ns m hn,fun i x v e1 e2 e3=>?_⟩
  obtain ⟨u,r,l⟩:=hl i x v e1 e2 e3
  refine⟨u,r,?_⟩
  rcases l with l | ⟨k,c,e,z⟩
  ·exact .inl l
  ·exact .inr ⟨k,c,e,cellK x c e _ z⟩
 ·obtain ⟨v,z⟩:=I.cell x c e
  exact⟨v,cellK x c e v z⟩
 ·obtain ⟨m,⟨o,_,_,ho,_⟩,_⟩:=I.loc
  exact free _ o (fun z=>(hch _ z).2.1 rfl) ho I.free
 ·obtain ⟨v,o,ho,hd⟩:=I.cell x c e
  exact free c o (fun z=>(hch c z).2.2.1 x c e rfl) ho (I.freeC x c e)
 ·obtain ⟨e,n,ne,nf,d⟩:=I.pin p hp
  have nch:p.1∉ch:=fun z=>(hch p.1 z).2.2.2 p hp rfl
  exact⟨keep p.1 p.2 ne nf nch e n,free p.1 p.2 nch e n,ne,nf,d⟩
theorem Inv.un {t':Nat} (I:Inv X pins σ H s) (u:Un X.fs [] H H' s.heap h') (hok:HOk X.prog X.w H' h'):Inv X pins σ H' { s with heap:=h',toks:=t' }:=by
 obtain ⟨m,⟨o,es,ep,ho,r⟩,_⟩:=id I.loc
 obtain ⟨sl,hL⟩:=u.any ho I.free (by simp)
 exact I.step (g':=s.gens) (d':=s.drawn) (ch:=[]) (fun _ z=>nomatch z) (fun b o _ hb _ e n=>u.keep b o e n hb (by simp)) (fun b o _ hb _ e n=>u.slot b o e n hb (by simp)) (fun b o _ e n=>u.free b o e n (by simp)) (fun b o _ e=>u.there b o e (by simp)) u.tups u.frzs u.tbls (fun m' hm=>by
  obtain ⟨o',es',ep',ho',r'⟩:=hm
  rw [ho] at ho';cases ho'
  exact⟨_,es',ep',hL,r'⟩) hok I.bare
theorem Inv.call {g':Array GenState} {t':Nat} {d':Drawn} {ch:List Addr} (I:Inv X pins σ H s) (u:Un (frs X.stack) ch H H' s.heap h') (hok:HOk X.prog X.w H' h') (hg:AllBare g')
  (hch:∀ b∈ch,(b∈X.ex∨X.s₀.heap.objs.size≤b)∧b≠X.env.locals∧(∀ x c,X.env.cells.lookup x=some c→c≠b)∧∀ p∈X.pn++pins,p.1≠b) :
  Inv X pins σ H' { s with heap:=h',gens:=g',drawn:=d',toks:=t' }:=by
 obtain ⟨m,⟨o,es,ep,ho,r⟩,_⟩:=id I.loc
 obtain ⟨sl,hL⟩:=u.any ho I.free fun z=>(hch _ z).2.1 rfl
 exact I.step (ch:=ch) hch (fun b o hL hb hc e n=>u.keep b o e n (fun z=>(CQ.mp (I.stkSub b z)).elim hL hb) hc) (fun b o _ _ hc e n=>u.any e n hc) (fun b o hc e n=>u.free b o e n hc) (fun b o hc e=>u.there b o e hc) u.tups u.frzs u.tbls (fun m' hm=>by
  obtain ⟨o',es',ep',ho',r'⟩:=hm
  rw [ho] at ho';cases ho'
  exact⟨_,es',ep',hL,r'⟩) hok hg
theorem Inv.turned {t':Nat} {it:Addr} (I:Inv X pins σ H s) (k:∀ b o,b≠it→s.heap.get? b=some o→h'.get? b=some o) (hn:H it=none) (hL:it≠X.env.locals)
  (h1:it∈X.ex∨X.s₀.heap.objs.size≤it) (h2:∀ x c,X.env.cells.lookup x=some c→c≠it) (h3:∀ p∈X.pn++pins,p.1≠it):Inv X pins σ H { s with heap:=h',toks:=t' }:=by
 have nit:∀ b u,H b=some u→b≠it:=fun b u e z=>by rw [z,hn] at e;cases e
 refine I.step (g':=s.gens) (d':=s.drawn) (ch:=[it]) (fun b hb=>?_) (fun b o _ _ hc e _=>k b o (fun z=>hc (by simp [z])) e) (fun b o _ _ hc e _=>⟨o.slots,k b o (fun z=>hc (by simp [z])) e⟩) (fun _ _ _ _ n=>n)
  (fun b o hc e=>⟨o,k b o (fun z=>hc (by simp [z])) e⟩) (fun _ _ e=>e) (fun _ _ _ e=>e) (fun b ps e=>⟨#[],by rw [e];simp⟩) (fun m hm=>?_) (fun b u e=>?_) I.bare
 ·have e:b=it:=by simpa using hb
  subst e
  exact⟨h1,hL,h2,h3⟩
 ·obtain ⟨o,es,ep,ho,r⟩:=hm
  exact⟨o,es,ep,k _ o (Ne.symm hL) ho,r⟩
 ·refine (I.hok b u e).stay (fun c v hc q=>k c v ?_ q) (fun _ q=>q) fun _ _ q=>q
  rcases hc with z | z
  ·rw [z];exact nit b u e
  ·exact nit c _ z
theorem Inv.tok (I:Inv X pins σ H s) (t:Nat):Inv X pins σ H { s with toks:=t }:=I.un (h':=s.heap) (t':=t) Un.refl I.hok
theorem Inv.kept {t':Nat} (I:Inv X pins σ H s) (k:∀ b u,s.heap.get? b=some u→h'.get? b=some u):Inv X pins σ H { s with heap:=h',toks:=t' }:=I.un (Un.kept k) (I.hok.kept k)
theorem Inv.laid {a:Addr} {o:HO} {t':Nat} (I:Inv X pins σ H s) (k:∀ b u,s.heap.get? b=some u→h'.get? b=some u) (hp:s.heap.objs.size≤a) (new:cc X.prog X.w (upd H a o) h' a o) :
  Inv X pins σ (upd H a o) { s with heap:=h',toks:=t' }:=I.un (Un.laid k hp (I.hok.fresh hp)) (I.hok.laid k hp new)
theorem Inv.write {x e:Addr} {o:HO} {t':Nat} (I:Inv X pins σ H s) (mu:Mut (H x)) (he:e=x∨H e=some (.own x)) (k:∀ b u,b≠e→s.heap.get? b=some u→h'.get? b=some u) (heo:∃ u,h'.get? e=some u)
  (new:cc X.prog X.w (upd H x o) h' x o):Inv X pins σ (upd H x o) { s with heap:=h',toks:=t' }:=I.un (Un.write mu he k heo) (I.hok.write mu he k heo new)
theorem Inv.pins_of {pins':List (Addr×Obj)} (I:Inv X pins σ H s) (h:∀ p∈pins',s.heap.get? p.1=some p.2∧H p.1=none∧p.1≠X.env.locals∧p.1∉X.fs∧∀ v,p.2.data≠.cell v):Inv X pins' σ H s :=
 ⟨I.ok,I.os,I.bare,I.base,I.loc,I.cell,I.free,I.freeC,fun p hp=>(CV.mp hp).elim (fun z=>I.pin p (CU _ z)) (h p),I.hok,I.len⟩
theorem px {N:List Str} (hN:N.Nodup) {i j:Nat} {x:Str} (a:N[i]?=some x) (b:N[j]?=some x):i=j:=by
 obtain ⟨h1,e1⟩:=CY.mp a
 obtain ⟨h2,e2⟩:=CY.mp b
 exact (List.getElem_inj hN).mp (e1.trans e2.symm)
theorem lj {M:Model} {A:Around} {E:Value→Shared→Prop} {i:Nat} {x:Str} {v:V} {u:Value} {Q:Unit→Shared→Prop} (I:Inv X pins σ H s) (hN:X.N.Nodup) (hi:X.N[i]?=some x) (hx:Loc X.env.scope x) (r:RelV v u)
  (h:∀ s',Inv X pins (σ.set i (some v)) H s'→(∃ a,Heap.SameBut a s.heap s'.heap∧(a=X.env.locals∨X.env.cells.lookup x=some a))→Q () s') (hf:X.fn x=true∨X.env.scope.names.lookup x=some .local :=by walk_at "v1"):wpAny M A (storeName X.env x u) Q E s:=by
 obtain ⟨m,hn,hl⟩:=id I.loc
 have hcls:(X.env.scope.kind == .class || (X.env.scope.kind == .module && X.env.locals != X.env.globals))=false:=by rw [I.ok.kind];rfl
 have hiσ:i < σ.length:=by rw [I.len];exact (CY.mp hi).1
 have cne:=I.cne
 have tracked:∀ {a:Addr} {h':Heap},(∃ o,s.heap.get? a=some o∧H a=none)→Heap.SameBut a s.heap h'→HOk X.prog X.w H h':=fun {a h'} ha hs b ob e=>by
  obtain ⟨_,_,hfree⟩:=ha
  refine (I.hok b ob e).stay (fun c w' hc q=>(hs.2 c ?_).trans q) (fun _ q=>q) fun _ _ q=>q
  rintro rfl
  rcases hc with rfl | hc
  ·rw [hfree] at e;cases e
  ·rw [hfree] at hc;cases hc
 rcases hx with hk | hk
 ·refine wpAny_storeName_local hk hn (fun h' hn' hs=>?_) hcls
  obtain ⟨oL,_,_,hoL,_⟩:=id hn
  refine h _ ⟨I.ok,I.os,I.bare,⟨fun b o e n hb hx=>?_,fun b o e n hb hx=>?_,I.base.free,fun b o e hx=>?_,I.base.tups,I.base.frzs,I.base.tbls⟩,⟨_,hn',fun j y v' e1 e2 e3=>?_⟩,fun y c e=>?_,I.free,I.freeC,fun p hp=>?_,tracked ⟨oL,hoL,I.free⟩ hs,by simpa using I.len⟩ ⟨_,hs,.inl rfl⟩
  ·exact (hs.2 b (Nat.ne_of_lt (Nat.lt_of_lt_of_le (Heap.lt_size e) I.ok.above))).trans (I.base.keep b o e n hb hx)
  ·obtain ⟨sl,e1⟩:=I.base.slot b o e n hb hx
   exact⟨sl,(hs.2 b (Nat.ne_of_lt (Nat.lt_of_lt_of_le (Heap.lt_size e) I.ok.above))).trans e1⟩
  ·obtain ⟨o',e1⟩:=I.base.there b o e hx
   exact⟨o',(hs.2 b (Nat.ne_of_lt (Nat.lt_of_lt_of_le (Heap.lt_size e) I.ok.above))).trans e1⟩
  ·by_cases hj:j=i
   ·subst hj
    rw [hi] at e1;cases e1
    rw [List.getElem?_set_self hiσ] at e2
    cases e2
    exact⟨u,r,.inl ⟨hk,by simp⟩⟩
   ·rw [List.getElem?_set_ne (Ne.symm hj)] at e2
    obtain ⟨u',r',q⟩:=hl j y v' e1 e2 e3
    refine⟨u',r',?_⟩
    rcases q with ⟨k,e⟩ | ⟨k,c,e,z⟩
    ·refine .inl ⟨k,?_⟩
     have:y≠x:=fun e=>hj (px hN e1 (e ▸ hi))
     simp [this,e]
    ·exact .inr ⟨k,c,e,z.sameBut hs (cne y c e)⟩
  ·obtain ⟨w',z⟩:=I.cell y c e
   exact⟨w',z.sameBut hs (cne y c e)⟩
  ·obtain ⟨e,n,ne,nf,d⟩:=I.pin p hp
   exact⟨(hs.2 p.1 ne).trans e,n,ne,nf,d⟩
 ·have hfn:X.fn x=true:=by
   rcases hf with z | z
   ·exact z
   ·rw [z] at hk;cases hk
  obtain ⟨c,hc⟩:=I.ok.has x (.inl hk)
  obtain ⟨w',z⟩:=I.cell x c hc
  refine wpAny_storeName_cell I.ok.kind hk hc z (fun h' hc' hs=>?_)
  obtain ⟨oc,hoc,hocd⟩:=id z
  refine h { s with heap:=h' } ⟨I.ok,I.os,I.bare,⟨fun b o e n hb hx=>?_,fun b o e n hb hx=>?_,I.base.free,fun b o e hx=>?_,I.base.tups,I.base.frzs,I.base.tbls⟩,⟨m,hn.sameBut hs (Ne.symm (cne x c hc)),fun j y v' e1 e2 e3=>?_⟩,fun y c' e=>?_,I.free,I.freeC,fun p hp=>?_,tracked ⟨oc,hoc,I.freeC x c hc⟩ hs,by simpa using I.len⟩ ⟨c,hs,.inr hc⟩
  ·exact (hs.2 b (Nat.ne_of_lt (Nat.lt_of_lt_of_le (Heap.lt_size e) (I.ok.cab x c hfn hc)))).trans (I.base.keep b o e n hb hx)
  ·obtain ⟨sl,e1⟩:=I.base.slot b o e n hb hx
   exact⟨sl,(hs.2 b (Nat.ne_of_lt (Nat.lt_of_lt_of_le (Heap.lt_size e) (I.ok.cab x c hfn hc)))).trans e1⟩
  ·obtain ⟨o',e1⟩:=I.base.there b o e hx
   exact⟨o',(hs.2 b (Nat.ne_of_lt (Nat.lt_of_lt_of_le (Heap.lt_size e) (I.ok.cab x c hfn hc)))).trans e1⟩
  ·by_cases hj:j=i
   ·subst hj
    rw [hi] at e1;cases e1
    rw [List.getElem?_set_self hiσ] at e2
    cases e2
    exact⟨u,r,.inr ⟨.inl hk,c,hc,hc'⟩⟩
   ·rw [List.getElem?_set_ne (Ne.symm hj)] at e2
    obtain ⟨u',r',q⟩:=hl j y v' e1 e2 e3
    refine⟨u',r',?_⟩
    rcases q with q | ⟨k,c',e,z'⟩
    ·exact .inl q
    ·refine .inr ⟨k,c',e,z'.sameBut hs ?_⟩
     rintro rfl
     exact hj (px hN e1 (I.ok.inj _ _ _ e hc ▸ hi))
  ·by_cases hcc:c'=c
   ·subst hcc;exact⟨_,hc'⟩
   ·obtain ⟨w2,z2⟩:=I.cell y c' e
    exact⟨w2,z2.sameBut hs hcc⟩
  ·obtain ⟨e,n,ne,nf,d⟩:=I.pin p hp
   refine⟨(hs.2 p.1 ?_).trans e,n,ne,nf,d⟩
   intro q
   rw [q,hoc] at e
   have q':oc=p.2:=Option.some.inj e
   exact d w' (by rw [← q'];exact hocd)
theorem pD {M:Model} {A:Around} {E:Value→Shared→Prop} {i:Nat} {x:Str} {v:V} {u:Value} {Q:Unit→Shared→Prop} (I:Inv X pins σ H s) (hN:X.N.Nodup) (hi:X.N[i]?=some x) (hx:Loc X.env.scope x) (r:RelV v u)
  (h:∀ s',Inv X pins (σ.set i (some v)) H s'→Q () s') (hf:X.fn x=true∨X.env.scope.names.lookup x=some .local :=by walk_at "v1"):wpAny M A (storeName X.env x u) Q E s :=
 lj I hN hi hx r (fun s' I' _=>h s' I') hf
theorem Inv.call' {s':Shared} {ch:List Addr} (I:Inv X pins σ H s) (ho:s'.os=s.os) (u:Un (frs X.stack) ch H H' s.heap s'.heap) (hok:HOk X.prog X.w H' s'.heap) (hg:AllBare s'.gens)
  (hch:∀ b∈ch,(b∈X.ex∨X.s₀.heap.objs.size≤b)∧b≠X.env.locals∧(∀ x c,X.env.cells.lookup x=some c→c≠b)∧∀ p∈X.pn++pins,p.1≠b):Inv X pins σ H' s':=by
 obtain ⟨h',g',d',t',o'⟩:=s'
 have e:o'=s.os:=ho
 subst e
 exact I.call (g':=g') (t':=t') (d':=d') u hok hg hch
end
abbrev XK:=Value→Option Addr→Hp→Prop
abbrev St:=List (Option V)
abbrev VK:=V→Hp→Prop
abbrev TE:=St→Hp→VK→Prop
abbrev TT:=St→Hp→(Bool→Hp→Prop)→Prop
abbrev TA:=St→Hp→(List V→Hp→Prop)→Prop
structure Ends where
 nx:St→Hp→Prop
 rt:VK
 bk:St→Hp→Prop:=fun _ _=>False
 ct:St→Hp→Prop:=fun _ _=>False
abbrev TS:=Ends→St→Hp→Prop
def EP (X:Cx) (pins:List (Addr×Obj)) (σ:St) (Q:VK) (u:Value) (s':Shared):Prop:=∃ v H',Inv X pins σ H' s'∧RelV v u∧Q v H'
def TP (X:Cx) (pins:List (Addr×Obj)) (σ:St) (Q:Bool→Hp→Prop) (b:Bool) (s':Shared):Prop:=∃ H',Inv X pins σ H' s'∧Q b H'
def AP (X:Cx) (pins:List (Addr×Obj)) (σ:St) (Q:List V→Hp→Prop) (us:List Value) (s':Shared):Prop:=∃ vs H',Inv X pins σ H' s'∧Vals vs us∧Q vs H'
def SP (X:Cx) (pins:List (Addr×Obj)) (D:Ends) (f:Flow) (s':Shared):Prop :=
 match f with
 | .next=>∃ σ' H',Inv X pins σ' H' s'∧D.nx σ' H'
 | .brk=>∃ σ' H',Inv X pins σ' H' s'∧D.bk σ' H'
 | .cont=>∃ σ' H',Inv X pins σ' H' s'∧D.ct σ' H'
 | .ret u=>∃ v σ' H',Inv X pins σ' H' s'∧RelV v u∧D.rt v H'
def PE (X:Cx) (e:Expr) (t:TE):Prop :=
 ∀ (pins:List (Addr×Obj)) (s:Shared) (σ:St) (H:Hp) (Q:VK),Inv X pins σ H s→t σ H Q→wpAny (model X.prog X.w) X.A (eval e X.env) (EP X pins σ Q) X.xe s
def PT (X:Cx) (e:Expr) (t:TT):Prop :=
 ∀ (pins:List (Addr×Obj)) (s:Shared) (σ:St) (H:Hp) (Q:Bool→Hp→Prop),Inv X pins σ H s→t σ H Q→wpAny (model X.prog X.w) X.A (isTrue e X.env (eval e X.env)) (TP X pins σ Q) X.xe s
def PW (X:Cx) (e:Expr) (t:TT):Prop :=
 ∀ (whole:Sem Value) (pins:List (Addr×Obj)) (s:Shared) (σ:St) (H:Hp) (Q:Bool→Hp→Prop),Inv X pins σ H s→t σ H Q→wpAny (model X.prog X.w) X.A (isTrue e X.env whole) (TP X pins σ Q) X.xe s
theorem PW.pt {X:Cx} {e:Expr} {t:TT} (h:PW X e t):PT X e t:=h _
def PA (X:Cx) (es:List Expr) (t:TA):Prop :=
 ∀ (pos:Pos) (pins:List (Addr×Obj)) (s:Shared) (σ:St) (H:Hp) (Q:List V→Hp→Prop),Inv X pins σ H s→t σ H Q→wpAny (model X.prog X.w) X.A (spliced (backTo pos (starEach es X.env))) (AP X pins σ Q) X.xe s
def PS (X:Cx) (st:Stmt) (t:TS):Prop :=
 ∀ (pins:List (Addr×Obj)) (s:Shared) (σ:St) (H:Hp) (D:Ends),Inv X pins σ H s→t D σ H→wpAny (model X.prog X.w) X.A (exec st X.env) (SP X pins D) X.xe s
def PSs (X:Cx) (st:List Stmt) (t:TS):Prop :=
 ∀ (pins:List (Addr×Obj)) (s:Shared) (σ:St) (H:Hp) (D:Ends),Inv X pins σ H s→t D σ H→wpAny (model X.prog X.w) X.A (execs st X.env) (SP X pins D) X.xe s
theorem thn {α:Type} {t:Sem α} {Q Q':α→Shared→Prop} {M:Model} {A:Around} {E:Value→Shared→Prop} {s:Shared} (h:wpAny M A t Q E s) (hQ:∀ a s,Q a s→Q' a s):wpAny M A t Q' E s:=wpAny_mono h hQ fun _ _ x=>x
end L2
namespace L2
open PySem PySem.Spec PyProof.Rows
section
variable {X:Cx}
theorem bin {a b:Expr} {ta tb:TE} (ha:PE X a ta) (hb:PE X b tb) {pins:List (Addr×Obj)} {s:Shared} {σ:St} {H:Hp} {R:V→V→Hp→Prop} (I:Inv X pins σ H s) (h:ta σ H fun x H1=>tb σ H1 fun y H2=>R x y H2)
  {α:Type} {Q:α→Shared→Prop} {f:Value→Value→Sem α}
  (hf:∀ v u s2 x y H2,Inv X pins σ H2 s2→RelV x v→RelV y u→R x y H2→wpAny (model X.prog X.w) X.A (f v u) Q X.xe s2) :
  wpAny (model X.prog X.w) X.A (eval a X.env) (fun v s₁=>wpAny (model X.prog X.w) X.A (eval b X.env) (fun u s₂=>wpAny (model X.prog X.w) X.A (f v u) Q X.xe s₂) X.xe s₁) X.xe s:=by
 refine thn (ha pins s σ H _ I h) fun v s1 h_0=>?_
 obtain ⟨x,H1,I1,r1,q1⟩:=h_0
 refine thn (hb pins s1 σ H1 _ I1 q1) fun u s2 h_0=>?_
 obtain ⟨y,H2,I2,r2,q2⟩:=h_0
 exact hf v u s2 x y H2 I2 r1 r2 q2
def tVar (i:Nat):TE:=fun σ H Q=>∃ v,σ[i]?=some (some v)∧Q v H
def tC (v:V):TE:=fun _ H Q=>Q v H
theorem eA {i:Nat} {x:Str} {pos:Pos} (hN:X.N[i]?=some x) (hv:Vis X.env.scope x) (hd:(x == ("__debug__":Str))=false:=by decide) (hcd:(x == ("__classdict__":Str))=false:=by decide):PE X (.Name x pos) (tVar i):=by
 intro pins s σ H Q I h
 obtain ⟨v,e,h⟩:=h
 obtain ⟨m,hn,hl⟩:=I.loc
 obtain ⟨u,r,l⟩:=hl i x v hN e hv
 have fin:EP X pins σ Q u s:=⟨v,H,I,r,h⟩
 rcases l with ⟨hk,hm⟩ | ⟨hk,c,hc,hcell⟩
 ·exact wpAny_Name (wpAny_loadName_local I.ok.kind hk hn hm fin) hd
 ·rcases hk with hk | hk
  ·exact wpAny_Name (wpAny_loadName_cell I.ok.kind hk hc hcell fin) hd
  ·exact wpAny_Name (wpAny_loadName_free I.ok.kind hk hc hcell fin hcd) hd
theorem vU {i j pos}:PE X (.Constant (.int i) j pos) (tC (.int i)):=fun _ _ _ H _ I h=>wpAny_Constant_int ⟨.int i,H,I.tok _,⟨_,rfl⟩,h⟩
theorem B4 {b j pos}:PE X (.Constant (.bool b) j pos) (tC (.bl b)):=fun _ _ _ H _ I h=>Constant_bool ⟨.bl b,H,I,rfl,h⟩
theorem BH {j pos}:PE X (.Constant .none j pos) (tC .non):=fun _ _ _ H _ I h=>Constant_none ⟨.non,H,I,rfl,h⟩
theorem rR {x j pos}:PE X (.Constant (.str x) j pos) (tC (.str x)):=fun _ _ _ H _ I h=>Calls.Constant_str ⟨.str x,H,I.tok _,⟨_,rfl⟩,h⟩
def Gl (X:Cx) (x:Str):Prop:=X.env.kindOf x=some .globalImplicit
theorem tW {E:Value→Shared→Prop} {pins:List (Addr×Obj)} {s:Shared} {σ:St} {H:Hp} {x:Str} {u:Value} {pos:Pos} {Q:Value→Shared→Prop} (I:Inv X pins σ H s) (hg:Gl X x) (hm:X.mg x=some u) (h:Q u s)
  (hd:(x == ("__debug__":Str))=false:=by decide):wpAny (model X.prog X.w) X.A (eval (.Name x pos) X.env) Q E s :=
 Calls.Name_function_global I.ok.kind hg (Calls.loadGlobal_global (by rw [I.ok.glob];exact I.mod.glob.keeps I.bk) hm h) hd
theorem jh {E:Value→Shared→Prop} {pins:List (Addr×Obj)} {s:Shared} {σ:St} {H:Hp} {x:Str} {u:Value} {pos:Pos} {Q:Value→Shared→Prop} (I:Inv X pins σ H s) (hg:Gl X x) (hm:X.mg x=none) (hv:bootBuiltins x=some u) (h:Q u s)
  (hn:x≠"__name__":=by decide) (hd:(x == ("__debug__":Str))=false:=by decide):wpAny (model X.prog X.w) X.A (eval (.Name x pos) X.env) Q E s:=by
 obtain ⟨mb,h1,h2⟩:=I.mod.blt
 exact Calls.Name_function_global I.ok.kind hg (Calls.loadGlobal_builtin (by rw [I.ok.glob];exact I.mod.glob.keeps I.bk) hm (by rw [I.ok.blt];exact h1.keeps I.bk) ((h2 x hn).trans hv) h) hd
theorem mC {x:Str} {v:V} {u:Value} {pos:Pos} (hg:Gl X x) (hm:X.mg x=some u) (r:RelV v u) (hd:(x == ("__debug__":Str))=false:=by decide):PE X (.Name x pos) (tC v) :=
 fun _ _ _ H _ I h=>tW I hg hm ⟨v,H,I,r,h⟩ hd
theorem xg {x:Str} {v:V} {u:Value} {pos:Pos} (hg:Gl X x) (hm:X.mg x=none) (hv:bootBuiltins x=some u) (r:RelV v u) (hn:x≠"__name__":=by decide) (hd:(x == ("__debug__":Str))=false:=by decide):PE X (.Name x pos) (tC v) :=
 fun _ _ _ H _ I h=>jh I hg hm hv ⟨v,H,I,r,h⟩ hn hd
variable {a b:Expr} {ta tb:TE} {pos:Pos}
def PC (X:Cx) (op:CmpOp) (a b:Expr) (t:TE):Prop :=
 ∀ (pins:List (Addr×Obj)) (s:Shared) (σ:St) (H:Hp) (Q:VK),Inv X pins σ H s→t σ H Q →
  wpAny (model X.prog X.w) X.A (eval a X.env) (fun v s₁=>wpAny (model X.prog X.w) X.A (eval b X.env) (fun u s₂=>wpAny (model X.prog X.w) X.A (compareOp op v u) (EP X pins σ Q) X.xe s₂) X.xe s₁) X.xe s
def tB (t:TE):TT:=fun σ H Q=>t σ H fun x H1=>∃ c,x=.bl c∧Q c H1
theorem pt_cmp {op:CmpOp} {t:TE} (h:PC X op a b t) (h1:behindInMarks op b=false:=by first | exact nobehind _ (by decide) (by decide) | rfl):PT X (.Compare a [op] [b] pos) (tB t):=by
 intro pins s σ H Q I hw
 refine wpAny_isTrue_Compare1 (thn (h pins s σ H _ I hw) fun v s1 h1=>thn h1 fun u s2 h2=>thn h2 fun c s3 ⟨x,H1,I1,r1,q1⟩=>?_) h1
 obtain ⟨d,rfl,q⟩:=q1
 cases r1
 exact wpAny_truthy_bool ⟨H1,I1,q⟩
theorem zC {e:Expr} {t:TE} (h:PE X e t) (he:∀ whole,isTrue e X.env whole=(do let v←whole;standAt e.pos;holding [v] (truthy v)):=by intro _;rfl):PT X e (tB t):=by
 intro pins s σ H Q I hw
 refine isTrue_plain (thn (h pins s σ H _ I hw) fun v s1 ⟨x,H1,I1,r1,q1⟩=>?_) (he _)
 obtain ⟨d,rfl,q⟩:=q1
 cases r1
 exact wpAny_truthy_bool ⟨H1,I1,q⟩
variable {tA tB':TT} {rest:List Expr}
def tAnd (t u:TT):TT:=fun σ H Q=>t σ H fun c H1=>if c=true then u σ H1 Q else Q false H1
def tOr (t u:TT):TT:=fun σ H Q=>t σ H fun c H1=>if c=true then Q true H1 else u σ H1 Q
def tNot (t:TT):TT:=fun σ H Q=>t σ H fun c H1=>Q (!c) H1
theorem yo (ha:PT X a tA):PW X (.BoolOp .And [a] pos) tA:=by
 intro wh pins s σ H Q I h
 refine isTrue_and (thn (ha pins s σ H Q I h) fun c s1 e=>?_)
 cases c with
 | true=>exact isTrue_and_nil e
 | false=>exact e
theorem zO (ha:PT X a tA):PW X (.BoolOp .Or [a] pos) tA:=by
 intro wh pins s σ H Q I h
 refine isTrue_or (thn (ha pins s σ H Q I h) fun c s1 e=>?_)
 cases c with
 | false=>exact isTrue_or_nil e
 | true=>exact e
theorem zA (ha:PT X a tA) (hb:PW X (.BoolOp .And (b :: rest) pos) tB'):PW X (.BoolOp .And (a :: b :: rest) pos) (tAnd tA tB'):=by
 intro wh pins s σ H Q I h
 refine isTrue_and (thn (ha pins s σ H _ I h) fun c s1 ⟨H1,I1,q1⟩=>?_)
 cases c with
 | true=>exact hb wh pins s1 σ H1 Q I1 q1
 | false=>exact⟨H1,I1,q1⟩
theorem B9 (ha:PT X a tA) (hb:PW X (.BoolOp .Or (b :: rest) pos) tB'):PW X (.BoolOp .Or (a :: b :: rest) pos) (tOr tA tB'):=by
 intro wh pins s σ H Q I h
 refine isTrue_or (thn (ha pins s σ H _ I h) fun c s1 ⟨H1,I1,q1⟩=>?_)
 cases c with
 | true=>exact⟨H1,I1,q1⟩
 | false=>exact hb wh pins s1 σ H1 Q I1 q1
theorem Aa (ha:PT X a tA):PT X (.UnaryOp .Not a pos) (tNot tA):=by
 intro pins s σ H Q I h
 exact isTrue_not (ha pins s σ H (fun c H1=>Q (!c) H1) I h)
def BY (ta tb:TE):TE:=fun σ H Q=>ta σ H fun x H1=>∃ c,x=.bl c∧if c=true then tb σ H1 Q else Q (.bl false) H1
def tOrV (ta tb:TE):TE:=fun σ H Q=>ta σ H fun x H1=>∃ c,x=.bl c∧if c=true then Q (.bl true) H1 else tb σ H1 Q
def BO (ta:TE):TE:=fun σ H Q=>ta σ H fun x H1=>∃ c,x=.bl c∧Q (.bl (!c)) H1
theorem AO {op} {t:TE} (h:PE X a t):PE X (.BoolOp op [a] pos) t:=fun pins s σ H Q I hw=>BoolOp_one (h pins s σ H Q I hw)
theorem Bw (ha:PE X a ta) (hb:PE X (.BoolOp .And (b :: rest) pos) tb):PE X (.BoolOp .And (a :: b :: rest) pos) (BY ta tb):=by
 intro pins s σ H Q I h
 refine BoolOp_and (thn (ha pins s σ H _ I h) fun v s1 ⟨x,H1,I1,r1,q1⟩=>?_)
 obtain ⟨c,rfl,q1⟩:=q1
 cases r1
 refine wpAny_truthy_bool ?_
 cases c with
 | true=>exact hb pins s1 σ H1 Q I1 q1
 | false=>exact⟨.bl false,H1,I1,rfl,q1⟩
theorem B8 (ha:PE X a ta) (hb:PE X (.BoolOp .Or (b :: rest) pos) tb):PE X (.BoolOp .Or (a :: b :: rest) pos) (tOrV ta tb):=by
 intro pins s σ H Q I h
 refine BoolOp_or (thn (ha pins s σ H _ I h) fun v s1 ⟨x,H1,I1,r1,q1⟩=>?_)
 obtain ⟨c,rfl,q1⟩:=q1
 cases r1
 refine wpAny_truthy_bool ?_
 cases c with
 | false=>exact hb pins s1 σ H1 Q I1 q1
 | true=>exact⟨.bl true,H1,I1,rfl,q1⟩
theorem AY (ha:PE X a ta):PE X (.UnaryOp .Not a pos) (BO ta):=by
 intro pins s σ H Q I h
 refine UnaryOp_ (thn (ha pins s σ H _ I h) fun v s1 ⟨x,H1,I1,r1,q1⟩=>?_)
 obtain ⟨c,rfl,q1⟩:=q1
 cases r1
 exact not_of (wpAny_truthy_bool ⟨.bl (!c),H1,I1,rfl,q1⟩)
def tIf (t:TT) (ta tb:TE):TE:=fun σ H Q=>t σ H fun c H1=>if c=true then ta σ H1 Q else tb σ H1 Q
theorem vp {c:Expr} (hc:PT X c tA) (ha:PE X a ta) (hb:PE X b tb):PE X (.IfExp c a b pos) (tIf tA ta tb):=by
 intro pins s σ H Q I h
 refine wpAny_IfExp (thn (hc pins s σ H _ I h) fun d s1 ⟨H1,I1,q1⟩=>?_)
 cases d with
 | true=>exact ha pins s1 σ H1 Q I1 q1
 | false=>exact hb pins s1 σ H1 Q I1 q1
end
end L2
namespace L2
open PySem PySem.Spec PyProof.Rows
def SqL (K:PySem.W.Frag) (H:Hp) (a:Addr) (xs:List V):Prop :=
 Rd H a (.lst xs) ∨
  ∃ (o:Obj) (its:Array Value) (n:Nat),K.lookup a=some o∧o.cls=.type "list"∧o.dict=none∧o.data=.seq its n∧its.size≤sizeLine∧Vals xs its.toList
def SqT (K:PySem.W.Frag) (H:Hp) (a:Addr) (xs:List V):Prop :=
 Rd H a (.tup xs) ∨
  ∃ (o:Obj) (its:Array Value) (n:Nat),K.lookup a=some o∧o.cls=.type "tuple"∧o.data=.seq its n∧its.size≤sizeLine∧Vals xs its.toList
def absV:Value→Option V
 | .none=>some .non
 | .bool b=>some (.bl b)
 | .int i _=>some (.int i)
 | .str x _=>some (.str x)
 | .bytes b _=>some (.byt b)
 | .float b _=>some (.flt b)
 | .ref a=>some (.ref a)
 | .type n=>some (.ty n)
 | _=>none
theorem RelV.abs {x:V} {u:Value} (r:RelV x u):absV u=some x:=by
 cases x with
 | non=>cases r;rfl
 | bl _=>cases r;rfl
 | int _=>obtain ⟨t,rfl⟩:=r;rfl
 | str _=>obtain ⟨t,rfl⟩:=r;rfl
 | byt _=>obtain ⟨t,rfl⟩:=r;rfl
 | flt _=>obtain ⟨t,rfl⟩:=r;rfl
 | ref _=>cases r;rfl
 | ty _=>cases r;rfl
theorem RelV.inj {x y:V} {u:Value} (r:RelV x u) (q:RelV y u):x=y:=Option.some.inj (r.abs.symm.trans q.abs)
theorem Vals.inj:∀ {xs ys:List V} {us:List Value},Vals xs us→Vals ys us→xs=ys
 | _,_,_,.nil,.nil=>rfl
 | _,_,_,.cons r t,.cons r' t'=>by rw [r.inj r',Vals.inj t t']
section
variable {X:Cx} {pins:List (Addr×Obj)} {σ:St} {H:Hp} {s:Shared} {a:Addr} {xs ys:List V}
theorem SqL.of {K:PySem.W.Frag} (h:H a=some (.lst xs)):SqL K H a xs:=.inl (.inl h)
theorem SqT.of {K:PySem.W.Frag} (h:H a=some (.tup xs)):SqT K H a xs:=.inl (.inl h)
theorem Inv.list (I:Inv X pins σ H s) (h:SqL X.K H a xs):∃ its:List Value,Vals xs its∧PlainL s.heap a its.toArray∧xs.length≤sizeLine:=by
 rcases h with h | ⟨o,its,n,hk,hc,hd,hs,hz,r⟩
 ·obtain ⟨z,its,n,r,e⟩:=h.ok I.hok
  exact⟨its,r,⟨_,n,e,rfl,rfl,rfl⟩,z⟩
 ·refine⟨its.toList,r,⟨o,n,I.kIn a o hk,hc,hd,by simpa using hs⟩,?_⟩
  have e:=r.length
  simp only [Array.length_toList] at e
  omega
theorem Inv.tuple (I:Inv X pins σ H s) (h:SqT X.K H a xs):∃ its:List Value,Vals xs its∧IsTup s.heap a its.toArray∧xs.length≤sizeLine:=by
 rcases h with h | ⟨o,its,n,hk,hc,hs,hz,r⟩
 ·obtain ⟨z,its,r,p⟩:=h.ok I.hok
  exact⟨its,r,p,z⟩
 ·refine⟨its.toList,r,⟨o,I.kIn a o hk,hc,n,by simpa using hs⟩,?_⟩
  have e:=r.length
  simp only [Array.length_toList] at e
  omega
theorem Inv.list_inj (I:Inv X pins σ H s) (h:SqL X.K H a xs) (h':SqL X.K H a ys):xs=ys:=by
 obtain ⟨its,r,⟨o,n,e,_,_,d⟩,_⟩:=I.list h
 obtain ⟨its',r',⟨o',n',e',_,_,d'⟩,_⟩:=I.list h'
 rw [e] at e';cases e'
 rw [d] at d'
 injection d' with d1 _
 have:its=its':=by simpa using congrArg Array.toList d1
 subst this
 exact r.inj r'
theorem Inv.tuple_inj (I:Inv X pins σ H s) (h:SqT X.K H a xs) (h':SqT X.K H a ys):xs=ys:=by
 obtain ⟨its,r,⟨o,e,_,n,d⟩,_⟩:=I.tuple h
 obtain ⟨its',r',⟨o',e',_,n',d'⟩,_⟩:=I.tuple h'
 rw [e] at e';cases e'
 rw [d] at d'
 injection d' with d1 _
 have:its=its':=by simpa using congrArg Array.toList d1
 subst this
 exact r.inj r'
end
abbrev Cx.wish (X:Cx) (E:Value→Shared→Prop):Cx:={ X with xe:=E }
abbrev Cx.nox (X:Cx):Cx:=X.wish fun _ _=>False
theorem Cx.Ok.wish {X:Cx} (ok:X.Ok) (E:Value→Shared→Prop):(X.wish E).Ok :=
 ⟨ok.mod,ok.kind,ok.glob,ok.blt,ok.above,ok.inj,ok.has,ok.cab,ok.hd,ok.frames,ok.stk,ok.exf,ok.bs,ok.bsz,ok.noex,ok.exfs,ok.funs,ok.frf⟩
theorem Cx.Ok.unwish {X:Cx} {E:Value→Shared→Prop} (ok:(X.wish E).Ok):X.Ok :=
 ⟨ok.mod,ok.kind,ok.glob,ok.blt,ok.above,ok.inj,ok.has,ok.cab,ok.hd,ok.frames,ok.stk,ok.exf,ok.bs,ok.bsz,ok.noex,ok.exfs,ok.funs,ok.frf⟩
section
variable {X:Cx} {pins:List (Addr×Obj)} {σ:St} {H:Hp} {s:Shared} {E:Value→Shared→Prop}
theorem Inv.wish (I:Inv X pins σ H s) (E:Value→Shared→Prop):Inv (X.wish E) pins σ H s:=⟨I.ok.wish E,I.os,I.bare,I.base,I.loc,I.cell,I.free,I.freeC,I.pin,I.hok,I.len⟩
theorem Inv.unwish (I:Inv (X.wish E) pins σ H s):Inv X pins σ H s:=⟨I.ok.unwish,I.os,I.bare,I.base,I.loc,I.cell,I.free,I.freeC,I.pin,I.hok,I.len⟩
theorem SP.unwish {D:Ends} {f:Flow} {s':Shared} (h:SP (X.wish E) pins D f s'):SP X pins D f s':=by
 cases f with
 | next=>obtain ⟨σ',H',I,q⟩:=h;exact⟨σ',H',I.unwish,q⟩
 | brk=>obtain ⟨σ',H',I,q⟩:=h;exact⟨σ',H',I.unwish,q⟩
 | cont=>obtain ⟨σ',H',I,q⟩:=h;exact⟨σ',H',I.unwish,q⟩
 | ret u=>obtain ⟨v,σ',H',I,r,q⟩:=h;exact⟨v,σ',H',I.unwish,r,q⟩
theorem PSs.nox {st:List Stmt} {t:TS} (h:PSs X.nox st t):PSs X st t:=fun pins s σ H D I hw =>
 wpAny_mono (h pins s σ H D (I.wish _) hw) (fun _ _ q=>q.unwish) fun _ _ z=>False.elim z
end
section
variable {X:Cx} {st:Stmt} {rest:List Stmt} {t u:TS} {e:Expr} {te:TE} {pos:Pos}
def B6:TS:=fun D σ H=>D.nx σ H
def tSeq (t u:TS):TS:=fun D σ H=>t { D with nx:=u D } σ H
theorem yZ:PSs X [] B6:=fun _ _ σ H _ I h=>wpAny_execs_nil ⟨σ,H,I,h⟩
theorem uZ (h1:PS X st t) (h2:PSs X rest u):PSs X (st :: rest) (tSeq t u):=by
 intro pins s σ H D I h
 refine wpAny_execs_cons (thn (h1 pins s σ H { D with nx:=u D } I h) fun f s1 q=>?_)
 cases f with
 | next =>
  obtain ⟨σ',H',I',q⟩:=q
  exact h2 pins s1 σ' H' D I' q
 | ret v=>exact q
 | brk=>exact q
 | cont=>exact q
theorem y9 (h1:PS X st t):PSs X [st] t:=by
 intro pins s σ H D I h
 refine wpAny_execs_cons (thn (h1 pins s σ H D I h) fun f s1 q=>?_)
 cases f with
 | next=>exact wpAny_execs_nil q
 | ret v=>exact q
 | brk=>exact q
 | cont=>exact q
theorem Inv.quiet {pins:List (Addr×Obj)} {σ:St} {H:Hp} {s:Shared} (I:Inv X pins σ H s):interactive X.env=false:=by simp [interactive,I.ok.kind]
def Cs (te:TE):TS:=fun D σ H=>te σ H fun _ H1=>D.nx σ H1
theorem nQ (he:PE X e te) (hs:swapsWith e none pos.line X.env=pure false:=by rfl):PS X (.Expr e pos) (Cs te):=by
 intro pins s σ H D I h
 exact wpAny_Expr_any (thn (he pins s σ H _ I h) fun v s1 h_0=>by obtain ⟨x,H1,I1,r1,q1⟩:=h_0;exact⟨σ,H1,I1,q1⟩) I.quiet hs
def tRet (te:TE):TS:=fun D σ H=>te σ H D.rt
theorem tO (he:PE X e te):PS X (.Return (some e) pos) (tRet te):=by
 intro pins s σ H D I h
 exact wpAny_Return_some (thn (he pins s σ H _ I h) fun v s1 h_0=>by obtain ⟨x,H1,I1,r1,q1⟩:=h_0;exact⟨x,σ,H1,I1,r1,q1⟩)
def BP:TS:=fun D _ H=>D.rt .non H
theorem yO:PS X (.Return none pos) BP:=fun _ _ σ H _ I h=>wpAny_Return_none ⟨.non,σ,H,I,rfl,h⟩
def tIfS (c:TT) (t u:TS):TS:=fun D σ H=>c σ H fun b H1=>if b=true then t D σ H1 else u D σ H1
theorem Cm {c:Expr} {a b:List Stmt} {tc:TT} (hc:PT X c tc) (ha:PSs X a t) (hb:PSs X b u):PS X (.If c a b pos) (tIfS tc t u):=by
 intro pins s σ H D I h
 refine wpAny_If (thn (hc pins s σ H _ I h) fun d s1 ⟨H1,I1,q1⟩=>?_)
 cases d with
 | true=>exact ha pins s1 σ H1 D I1 q1
 | false=>exact hb pins s1 σ H1 D I1 q1
def v8:TS:=fun _ _ _=>False
theorem u5:PS X st v8:=fun _ _ _ _ _ _ h=>h.elim
theorem tP {sts:List Stmt}:PSs X sts v8:=fun _ _ _ _ _ _ h=>h.elim
end
abbrev TG:=V→St→Hp→(St→Hp→Prop)→Prop
abbrev TGs:=List V→St→Hp→(St→Hp→Prop)→Prop
def PG (X:Cx) (target:Expr) (t:TG):Prop :=
 ∀ (pins:List (Addr×Obj)) (s:Shared) (σ:St) (H:Hp) (v:V) (u:Value) (Q:St→Hp→Prop),Inv X pins σ H s→RelV v u→t v σ H Q →
  wpAny (model X.prog X.w) X.A (assign target X.env u) (fun _ s'=>∃ σ' H',Inv X pins σ' H' s'∧Q σ' H') X.xe s
def PGs (X:Cx) (ts:List Expr) (t:TGs):Prop :=
 ∀ (pins:List (Addr×Obj)) (s:Shared) (σ:St) (H:Hp) (vs:List V) (us:List Value) (Q:St→Hp→Prop),Inv X pins σ H s→Vals vs us→t vs σ H Q →
  wpAny (model X.prog X.w) X.A (assignInOrder ((assignEach ts X.env).map (·.2)) us) (fun _ s'=>∃ σ' H',Inv X pins σ' H' s'∧Q σ' H') X.xe s
section
variable {X:Cx} {pos:Pos}
def sV (i:Nat):TG:=fun v σ H Q=>Q (σ.set i (some v)) H
theorem yG {i:Nat} {x:Str} (hN:X.N.Nodup) (hi:X.N[i]?=some x) (hx:Loc X.env.scope x) (hf:X.fn x=true∨X.env.scope.names.lookup x=some .local :=by walk_at "v1"):PG X (.Name x pos) (sV i):=by
 intro pins s σ H v u Q I r h
 exact wpAny_assign_Name (pD I hN hi hx r (fun s' I'=>⟨_,H,I',h⟩) hf)
def gNil:TGs:=fun vs σ H Q=>vs=[]∧Q σ H
def Cg (t:TG) (u:TGs):TGs:=fun vs σ H Q=>∃ v r,vs=v :: r∧t v σ H fun σ' H'=>u r σ' H' Q
theorem xC:PGs X [] gNil:=by
 intro pins s σ H vs us Q I r h
 obtain ⟨e,h⟩:=h
 subst e
 cases r
 exact assignInOrder_nil ⟨σ,H,I,h⟩
theorem uC {e:Expr} {es:List Expr} {t:TG} {u:TGs} (h1:PG X e t) (h2:PGs X es u)
  (hs:(assignEach (e :: es) X.env).map (·.2)=assign e X.env :: (assignEach es X.env).map (·.2):=by rfl):PGs X (e :: es) (Cg t u):=by
 intro pins s σ H vs us Q I r h
 obtain ⟨v,vr,e1,h⟩:=h
 subst e1
 cases r with
 | cons r rr =>
  rw [hs]
  refine assignInOrder_cons (thn (h1 pins s σ H _ _ _ I r h) fun _ s1 ⟨σ1,H1,I1,q1⟩=>?_)
  exact h2 pins s1 σ1 H1 _ _ Q I1 rr q1
def gTup (K:PySem.W.Frag) (n:Nat) (t:TGs):TG:=fun v σ H Q=>∃ a xs,v=.ref a∧SqT K H a xs∧xs.length=n∧t xs σ H Q
theorem Bs {es:List Expr} {k:Nat} {t:TGs} {n:Nat} (hc:X.calm=true) (h:PGs X es t)
  (hn:(assignEach es X.env).length=n:=by rfl) (hst:(assignEach es X.env).findIdx? (·.1)=none:=by rfl):PG X (.Tuple es k pos) (gTup X.K n t):=by
 intro pins s σ H v u Q I r hw
 obtain ⟨a,xs,e1,hq,hl,hw⟩:=hw
 subst e1
 cases r
 obtain ⟨its,rv,ht,hz⟩:=I.tuple hq
 refine assign_Tuple_tuple (I.ok.hd hc) ht (by simp [hn,← hl,rv.length]) hst fun h' hx=>?_
 have I1:Inv X pins σ H { s with heap:=h' }:=I.kept (t':=s.toks) fun b o e=>hx b o (Nat.ne_of_lt (Heap.lt_size e)) e
 exact h pins _ σ H xs _ Q I1 (by simpa using rv) hw
def tAsg (te:TE) (g:TG):TS:=fun D σ H=>te σ H fun x H1=>g x σ H1 D.nx
theorem Ax {tg e:Expr} {te:TE} {g:TG} (he:PE X e te) (hg:PG X tg g) (hs:swapsWithSole [tg] e pos.line X.env=pure false:=by rfl) (hw:swappedStores [tg] e X.env=pure none:=by rfl)
  (h1:(assignEach [tg] X.env).map (·.2)=[assign tg X.env]:=by rfl):PS X (.Assign [tg] e pos) (tAsg te g):=by
 intro pins s σ H D I h
 refine wpAny_Assign_stores (thn (he pins s σ H _ I h) fun v s1 ⟨x,H1,I1,r1,q1⟩=>?_) hs hw
 rw [h1]
 exact thn (hg pins s1 σ H1 x v _ I1 r1 q1) fun _ s2 q=>q
theorem lY {i:Nat} {x:Str} {e:Expr} {te:TE} {pos':Pos} (hN:X.N.Nodup) (hi:X.N[i]?=some x) (hx:Loc X.env.scope x) (he:PE X e te) (hs:swapsWith e (some (.Name x pos')) pos.line X.env=pure false:=by rfl) (hf:X.fn x=true∨X.env.scope.names.lookup x=some .local :=by walk_at "v1") :
  PS X (.Assign [.Name x pos'] e pos) (tAsg te (sV i)):=by
 intro pins s σ H D I h
 refine wpAny_Assign_Name (thn (he pins s σ H _ I h) fun v s1 ⟨y,H1,I1,r1,q1⟩=>?_) hs
 exact pD I1 hN hi hx r1 (fun s2 I2=>⟨_,H1,I2,q1⟩) hf
end
section
variable {X:Cx} {pos:Pos}
def AD (c:TT) (tb:TS):TS:=fun D σ H=>∃ W:Nat→St→Hp→Prop,(∃ m,W m σ H)∧∀ m σ H,W m σ H →
 c σ H fun b H1=>if b=true then ∃ N:St→Hp→Prop,(∀ σ' H',N σ' H'→∃ m',m' < m∧W m' σ' H')∧tb { D with nx:=N,ct:=N,bk:=D.nx } σ H1 else D.nx σ H1
theorem vQ {c:Expr} {body:List Stmt} {tc:TT} {tb:TS} (hp:PassesOwn (model X.prog X.w) X.A X.env X.xe) (hc:PT X c tc) (hb:PSs X body tb):PS X (.While c body [] pos) (AD tc tb):=by
 intro pins s σ H D I h
 obtain ⟨W,⟨m0,w0⟩,turn⟩:=h
 refine wpAny_While (codeAny_whileLoop (fun n s'=>∃ σ' H',Inv X pins σ' H' s'∧W n σ' H') ?_ m0 ⟨σ,H,I,w0⟩)
 rintro n s1 ⟨σ1,H1,I1,w1⟩
 refine wpAny_passesOwn hp (thn (hc pins s1 σ1 H1 _ I1 (turn n σ1 H1 w1)) fun b s2 ⟨H2,I2,q2⟩=>?_)
 cases b with
 | true =>
  obtain ⟨N,hN,q2⟩:=q2
  rw [if_pos rfl]
  refine wpAny_passesOwn hp (thn (hb pins s2 σ1 H2 _ I2 q2) fun f s3 q3=>?_)
  cases f with
  | next =>
   obtain ⟨σ3,H3,I3,n3⟩:=q3
   obtain ⟨m',hm,w3⟩:=hN σ3 H3 n3
   exact⟨m',hm,σ3,H3,I3,w3⟩
  | cont =>
   obtain ⟨σ3,H3,I3,n3⟩:=q3
   obtain ⟨m',hm,w3⟩:=hN σ3 H3 n3
   exact⟨m',hm,σ3,H3,I3,w3⟩
  | brk=>exact q3
  | ret v=>exact q3
 | false =>
  rw [if_neg Bool.false_ne_true]
  exact wpAny_execs_nil ⟨σ1,H2,I2,q2⟩
end
structure It where
 go:Nat→Hp→Prop
 yld:Nat→Hp→V→Hp→Prop
 stop:Nat→Hp→Prop
def FpOk (X:Cx) (pins:List (Addr×Obj)) (H:Hp) (b:Addr):Prop :=
 H b=none∧b≠X.env.locals∧b∉X.fs∧(b∈X.ex∨X.s₀.heap.objs.size≤b)∧(∀ x c,X.env.cells.lookup x=some c→c≠b)∧∀ p∈X.pn++pins,p.1≠b
theorem Inv.fpOk {X:Cx} {pins:List (Addr×Obj)} {σ:St} {H H':Hp} {s:Shared} {b:Addr} (I:Inv X pins σ H s) (hb:s.heap.objs.size≤b) (hn:H' b=none):FpOk X pins H' b:=by
 refine⟨hn,Nat.ne_of_gt (Nat.lt_of_lt_of_le I.lt hb),I.nofs hb,.inr (CN I.sz hb),fun x c e z=>?_,fun p hp z=>?_⟩
 ·obtain ⟨v,q⟩:=I.cell x c e
  exact absurd (Nat.lt_of_lt_of_le q.lt (by rw [z];exact hb)) (Nat.lt_irrefl _)
 ·exact absurd (Nat.lt_of_lt_of_le (Heap.lt_size (I.pin p hp).1) (by rw [z];exact hb)) (Nat.lt_irrefl _)
structure Turn (P:Program) (w:World) (K:PySem.W.Frag) (tg:Expr) (J:It) (fp:List Addr) (it:Addr) (tn:Nat→Heap→Prop):Prop where
 mem:it∈fp
 obj:∀ i h,tn i h→∀ b∈fp,∃ o,h.get? b=some o∧∀ v,o.data≠.cell v
 keep:∀ i h h',tn i h→(∀ b∈fp,∀ o,h.get? b=some o→h'.get? b=some o)→tn i h'
 item:∀ (X:Cx),X.prog=P→X.w=w→X.K=K→X.calm=true→∀ (i:Nat) (pins:List (Addr×Obj)) (s:Shared) (σ:St) (H:Hp) (E:Value→Shared→Prop),Inv X pins σ H s→(∀ b∈fp,FpOk X pins H b)→tn i s.heap→J.go i H →
  wpAny (model P w) X.A (pyNext (.ref it)) (fun r s1=>∃ u,r=some u ∧
   wpAny (model P w) X.A (letOwnedTupleGo tg (.ref it) u) (fun _ s2=>∃ x H',Inv X pins σ H' s2∧RelV x u∧J.yld i H x H'∧tn (i + 1) s2.heap∧∀ b∈fp,H' b=none) E s1) E s
 done:∀ (X:Cx),X.prog=P→X.w=w→X.K=K→X.calm=true→∀ (i:Nat) (pins:List (Addr×Obj)) (s:Shared) (σ:St) (H:Hp) (E:Value→Shared→Prop),Inv X pins σ H s→(∀ b∈fp,FpOk X pins H b)→tn i s.heap→J.stop i H →
  wpAny (model P w) X.A (pyNext (.ref it)) (fun r s1=>r=none∧Inv X pins σ H s1) E s
 self:∀ (A:Around) (i:Nat) (s:Shared) (Q:Value→Shared→Prop) (E:Value→Shared→Prop),tn i s.heap→Q (.ref it) s→wpAny (model P w) A (pyIter (.ref it)) Q E s
abbrev TI:=St→Hp→(It→Hp→Prop)→Prop
def PIE (X:Cx) (pins:List (Addr×Obj)) (σ:St) (tg:Expr) (R:It→Hp→Prop) (itv:Value) (s2:Shared):Prop :=
 ∃ (it:Addr) (fp:List Addr) (tn:Nat→Heap→Prop) (J:It) (H':Hp),itv=.ref it∧Inv X pins σ H' s2∧Turn X.prog X.w X.K tg J fp it tn∧tn 0 s2.heap∧(∀ b∈fp,FpOk X pins H' b)∧R J H'
def PI (X:Cx) (tg iter:Expr) (wi:TI):Prop :=
 ∀ (pins:List (Addr×Obj)) (s:Shared) (σ:St) (H:Hp) (R:It→Hp→Prop),Inv X pins σ H s→wi σ H R →
  wpAny (model X.prog X.w) X.A (eval iter X.env) (fun v s1=>wpAny (model X.prog X.w) X.A (pyIter v) (PIE X pins σ tg R) X.xe s1) X.xe s
theorem ri {M:Model} {A:Around} {E:Value→Shared→Prop} {s:Shared} {tg:Expr} {it:Addr} {u:Value} {o:Obj} {n:String} {vs:Array Value} {Q:Unit→Shared→Prop} (ho:s.heap.get? it=some o) (hc:o.cls=.type n) (hd:o.data=.fields vs)
    (hn:["enumerate","zip","dict_itemiterator","dict_reverseitemiterator","odict_iterator","itertools.zip_longest","itertools.pairwise"].contains n=false) (hQ:Q () s):wpAny M A (letOwnedTupleGo tg (.ref it) u) Q E s:=by
  unfold letOwnedTupleGo
  cases tg<;>first
    | exact wpAny_pure hQ
    | (cases u<;>first
        | exact wpAny_pure hQ
        | (refine wpAny_bind (wpAny_load ho ?_)
           rw [hc,hd]
           show wpAny M A (if (["enumerate","zip","dict_itemiterator","dict_reverseitemiterator","odict_iterator","itertools.zip_longest","itertools.pairwise"].contains n && vs[0]? == some (rawInt _))=true then _ else _) Q E s
           rw [if_neg (by intro h;rw [hn,Bool.false_and] at h;cases h)]
           exact wpAny_pure hQ))
def Itl (K:PySem.W.Frag) (a:Addr):It :=
 ⟨fun i H=>∃ xs x,SqL K H a xs∧xs[i]?=some x,fun i H x H'=>H'=H∧∀ xs,SqL K H a xs→xs[i]?=some x,fun i H=>∃ xs,SqL K H a xs∧xs.length≤i⟩
def Itt (K:PySem.W.Frag) (a:Addr):It :=
 ⟨fun i H=>∃ xs x,SqT K H a xs∧xs[i]?=some x,fun i H x H'=>H'=H∧∀ xs,SqT K H a xs→xs[i]?=some x,fun i H=>∃ xs,SqT K H a xs∧xs.length≤i⟩
def Itr (lo:Int) (n:Nat):It:=⟨fun i _=>i < n,fun i H x H'=>H'=H∧x=.int (lo + i),fun i _=>n≤i⟩
theorem lI {P:Program} {w:World} {K:PySem.W.Frag} {tg:Expr} (a it:Addr):Turn P w K tg (Itl K a) [it] it (fun i h=>h.IsListIter it a i) where
 mem:=by simp
 obj:=fun i h st b hb=>by
  have e:b=it:=by simpa using hb
  subst e
  obtain ⟨o,e,c,d⟩:=st
  exact⟨o,e,fun v z=>by rw [d] at z;cases z⟩
 keep:=fun i h h' st k=>st.at fun o e=>k it (by simp) o e
 item:=by
  intro X hP hw hK hc i pins s σ H E I hf st hg
  subst hP hw hK
  obtain ⟨xs,x,hq,hx⟩:=hg
  obtain ⟨its,rv,p,hz⟩:=I.list hq
  obtain ⟨u,hu,ru⟩:=rv.get hx
  obtain ⟨f0,f1,f2,f3,f4,f5⟩:=hf it (by simp)
  refine wpAny_pyNext_list_item st p.isList (x:=u) (by simpa using hu) fun h' st' sb=>?_
  have I1:Inv X pins σ H { s with heap:=h' }:=I.turned (t':=s.toks) (fun b o hb e=>(sb.2 b hb).trans e) f0 f1 f3 f4 f5
  obtain ⟨o,e,c,d⟩:=id st'
  exact⟨u,rfl,ri (s:={ s with heap:=h' }) e c d (by decide) ⟨x,H,I1,ru,⟨rfl,fun ys hy=>by rw [I.list_inj hy hq];exact hx⟩,st',fun b hb=>(hf b hb).1⟩⟩
 done:=by
  intro X hP hw hK hc i pins s σ H E I hf st hg
  subst hP hw hK
  obtain ⟨xs,hq,hx⟩:=hg
  obtain ⟨its,rv,p,hz⟩:=I.list hq
  obtain ⟨f0,f1,f2,f3,f4,f5⟩:=hf it (by simp)
  have hl:=rv.length
  exact wpAny_pyNext_list_end (I.ok.hd hc) st p.isList (by simp;omega) fun h' eb=>⟨rfl,I.turned (t':=s.toks) (fun b o hb e=>eb b o hb e) f0 f1 f3 f4 f5⟩
 self:=fun _ _ _ _ _ st h=>wpAny_pyIter_listiter st h
theorem jP {P:Program} {w:World} {K:PySem.W.Frag} {tg:Expr} (a it:Addr):Turn P w K tg (Itt K a) [it] it (fun i h=>h.IsTupleIter it a i) where
 mem:=by simp
 obj:=fun i h st b hb=>by
  have e:b=it:=by simpa using hb
  subst e
  obtain ⟨o,e,c,d⟩:=st
  exact⟨o,e,fun v z=>by rw [d] at z;cases z⟩
 keep:=fun i h h' st k=>st.at fun o e=>k it (by simp) o e
 item:=by
  intro X hP hw hK hc i pins s σ H E I hf st hg
  subst hP hw hK
  obtain ⟨xs,x,hq,hx⟩:=hg
  obtain ⟨its,rv,p,hz⟩:=I.tuple hq
  obtain ⟨u,hu,ru⟩:=rv.get hx
  obtain ⟨f0,f1,f2,f3,f4,f5⟩:=hf it (by simp)
  refine wpAny_pyNext_tuple_item st (show s.heap.IsTuple a its.toArray from p) (x:=u) (by simpa using hu) fun h' st' sb=>?_
  have I1:Inv X pins σ H { s with heap:=h' }:=I.turned (t':=s.toks) (fun b o hb e=>(sb.2 b hb).trans e) f0 f1 f3 f4 f5
  obtain ⟨o,e,c,d⟩:=id st'
  exact⟨u,rfl,ri (s:={ s with heap:=h' }) e c d (by decide) ⟨x,H,I1,ru,⟨rfl,fun ys hy=>by rw [I.tuple_inj hy hq];exact hx⟩,st',fun b hb=>(hf b hb).1⟩⟩
 done:=by
  intro X hP hw hK hc i pins s σ H E I hf st hg
  subst hP hw hK
  obtain ⟨xs,hq,hx⟩:=hg
  obtain ⟨its,rv,p,hz⟩:=I.tuple hq
  obtain ⟨f0,f1,f2,f3,f4,f5⟩:=hf it (by simp)
  have hl:=rv.length
  exact wpAny_pyNext_tuple_end (I.ok.hd hc) st (show s.heap.IsTuple a its.toArray from p) (by simp;omega) fun h' eb=>⟨rfl,I.turned (t':=s.toks) (fun b o hb e=>eb b o hb e) f0 f1 f3 f4 f5⟩
 self:=fun _ _ _ _ _ st h=>wpAny_pyIter_tupleiter st h
theorem qw {P:Program} {w:World} {K:PySem.W.Frag} {tg:Expr} (it:Addr) (lo:Int) (n:Nat):Turn P w K tg (Itr lo n) [it] it (fun i h=>IsRangeIter h it (lo + (i:Nat) * 1) ((n:Int) - (i:Nat)) 1) where
 mem:=by simp
 obj:=fun i h st b hb=>by
  have e:b=it:=by simpa using hb
  subst e
  exact⟨_,st,fun v z=>by
   have z':Data.fields _=Data.cell v:=z
   cases z'⟩
 keep:=fun i h h' st k=>k it (by simp) _ st
 item:=by
  intro X hP hw hK hc i pins s σ H E I hf st hg
  subst hP hw hK
  obtain ⟨f0,f1,f2,f3,f4,f5⟩:=hf it (by simp)
  have W:=Walks.range (prog:=X.prog) (w:=X.w) (I.ok.hd hc) it lo 1 n
  refine W.item i s _ _ hg st fun v h' tk hv st' kk=>?_
  obtain ⟨t,rfl⟩:=hv
  have I1:Inv X pins σ H { s with heap:=h',toks:=tk }:=I.turned (fun b o hb e=>kk b o (by simpa using hb) e) f0 f1 f3 f4 f5
  refine⟨_,rfl,ri (s:={ s with heap:=h',toks:=tk }) (n:="range_iterator") st' rfl rfl (by decide) ⟨.int (lo + i),H,I1,⟨t,?_⟩,⟨rfl,rfl⟩,st',fun b hb=>(hf b hb).1⟩⟩
  rw [Int.mul_one]
 done:=by
  intro X hP hw hK hc i pins s σ H E I hf st hg
  subst hP hw hK
  obtain ⟨f0,f1,f2,f3,f4,f5⟩:=hf it (by simp)
  exact wpAny_pyNext_range_end (I.ok.hd hc) st (by have:n≤i:=hg;omega) fun h' eb=>⟨rfl,I.turned (t':=s.toks) (fun b o hb e=>eb b o hb e) f0 f1 f3 f4 f5⟩
 self:=fun _ _ _ _ _ st h=>wpAny_pyIter_rangeiter st h
end L2
namespace L2
open PySem PySem.Spec PyProof.Rows
section
variable {X:Cx} {tg:Expr}
def BJ (K:PySem.W.Frag) (tl:TE):TI:=fun σ H R=>tl σ H fun x H1=>∃ a,x=.ref a∧(∃ xs,SqL K H1 a xs)∧R (Itl K a) H1
def iTup (K:PySem.W.Frag) (tl:TE):TI:=fun σ H R=>tl σ H fun x H1=>∃ a,x=.ref a∧(∃ xs,SqT K H1 a xs)∧R (Itt K a) H1
theorem t5 {l:Expr} {tl:TE} (hl:PE X l tl):PI X tg l (BJ X.K tl):=by
 intro pins s σ H R I h
 refine thn (hl pins s σ H _ I h) fun v s1 h_0=>?_
 obtain ⟨x,H1,I1,r1,q1⟩:=h_0
 obtain ⟨a,e,⟨xs,hq⟩,q⟩:=q1
 subst e
 cases r1
 obtain ⟨its,rv,p,hz⟩:=I1.list hq
 refine wpAny_pyIter_list p.isList ?_
 refine⟨s1.heap.objs.size,[s1.heap.objs.size],_,_,H1,rfl,I1.kept (t':=s1.toks) fun b o e=>CO _ e,lI a _,⟨_,Da _ rfl,rfl,rfl⟩,fun b hb=>?_,q⟩
 have e:b=s1.heap.objs.size:=by simpa using hb
 subst e
 exact I1.fpOk (Nat.le_refl _) (I1.hok.fresh (Nat.le_refl _))
theorem wp {l:Expr} {tl:TE} (hl:PE X l tl):PI X tg l (iTup X.K tl):=by
 intro pins s σ H R I h
 refine thn (hl pins s σ H _ I h) fun v s1 h_0=>?_
 obtain ⟨x,H1,I1,r1,q1⟩:=h_0
 obtain ⟨a,e,⟨xs,hq⟩,q⟩:=q1
 subst e
 cases r1
 obtain ⟨its,rv,p,hz⟩:=I1.tuple hq
 refine wpAny_pyIter_tuple (show s1.heap.IsTuple a its.toArray from p) ?_
 refine⟨s1.heap.objs.size,[s1.heap.objs.size],_,_,H1,rfl,I1.kept (t':=s1.toks) fun b o e=>CO _ e,jP a _,⟨_,Da _ rfl,rfl,rfl⟩,fun b hb=>?_,q⟩
 have e:b=s1.heap.objs.size:=by simpa using hb
 subst e
 exact I1.fpOk (Nat.le_refl _) (I1.hok.fresh (Nat.le_refl _))
theorem uu {pins:List (Addr×Obj)} {σ:St} {H:Hp} {s:Shared} {R:It→Hp→Prop} {E:Value→Shared→Prop} {lo hi:Int} {t u v:Tok} {tk:Nat} (I:Inv X pins σ H s) (h1:-(2 ^ 62)≤lo) (h2:lo < 2 ^ 62) (h3:-(2 ^ 62)≤hi) (h4:hi < 2 ^ 62)
  (q:R (Itr lo (hi - lo).toNat) H):wpAny (model X.prog X.w) X.A (pyIter (.ref s.heap.objs.size)) (PIE X pins σ tg R) E { s with heap:=s.heap.push { cls:=.type "range",data:=.fields #[.int lo t,.int hi u,.int 1 v] },toks:=tk }:=by
 refine wpAny_pyIter_range (IsRange.new ..) (small_one h1 h2 h3 h4) ?_
 have I1:Inv X pins σ H { s with heap:=s.heap.push { cls:=.type "range",data:=.fields #[.int lo t,.int hi u,.int 1 v] },toks:=tk }:=I.kept fun b o e=>CO _ e
 refine⟨(s.heap.push { cls:=.type "range",data:=.fields #[.int lo t,.int hi u,.int 1 v] }).objs.size,[(s.heap.push { cls:=.type "range",data:=.fields #[.int lo t,.int hi u,.int 1 v] }).objs.size],_,_,H,rfl,
  I1.kept (t':=tk) fun b o e=>CO _ e,qw _ lo (hi - lo).toNat,?_,fun b hb=>?_,q⟩
 ·have e1:lo + ((0:Nat):Int) * 1=lo:=by simp
  have e2:(((hi - lo).toNat:Nat):Int) - ((0:Nat):Int)=Builtin.Range.rangeSize lo hi 1:=by rw [rangeSize_one];split<;>omega
  show IsRangeIter _ _ (lo + ((0:Nat):Int) * 1) ((((hi - lo).toNat:Nat):Int) - ((0:Nat):Int)) 1
  rw [e1,e2]
  exact Da _ rfl
 ·have e:b=(s.heap.push { cls:=.type "range",data:=.fields #[.int lo t,.int hi u,.int 1 v] }).objs.size:=by simpa using hb
  subst e
  exact I1.fpOk (Nat.le_refl _) (I1.hok.fresh (Nat.le_refl _))
def Cb (ta:TA):TI:=fun σ H R=>ta σ H fun vs H1=>∃ j:Int,vs=[.int j]∧-(2 ^ 62)≤j∧j < 2 ^ 62∧R (Itr 0 j.toNat) H1
theorem lZ {a:Expr} {ta:TA} {p pos:Pos} (hg:Gl X "range") (hm:X.mg "range"=none) (ha:PA X [a] ta) (hs:starEach [a] X.env=[(false,eval a X.env)]:=by rfl):PI X tg (.Call (.Name "range" p) [a] [] pos) (Cb ta):=by
 intro pins s σ H R I h
 refine Call_ (jh I hg hm boot_range (PyProof.Rows.callWith_type1 (thn (ha pos pins s σ H _ I h) fun us s1 ⟨vs,H1,I1,r1,q1⟩=>?_) hs rfl))
 obtain ⟨j,e,q1,q2,q⟩:=q1
 subst e
 cases r1 with
 | cons r rr =>
  cases rr
  obtain ⟨t,rfl⟩:=r
  exact call_range_1 (uu I1 (by omega) (by omega) q1 q2 (by simpa using q))
def tFor (wi:TI) (g:TG) (tb:TS):TS:=fun D σ H=>wi σ H fun J H1=>∃ W:Nat→Nat→St→Hp→Prop,(∃ m,W 0 m σ H1)∧∀ i m σ H,W i m σ H →
 (J.stop i H∧D.nx σ H)∨(J.go i H∧∃ N:St→Hp→Prop,(∀ σ' H',N σ' H'→∃ m',m' < m∧W (i + 1) m' σ' H')∧∀ x H',J.yld i H x H'→g x σ H' fun σ2 H2=>tb { D with nx:=N,ct:=N,bk:=D.nx } σ2 H2)
def lL (fp:List Addr) (h:Heap):List (Addr×Obj):=fp.filterMap fun b=>(h.get? b).map fun o=>(b,o)
theorem eM {fp:List Addr} {h:Heap} {b:Addr} {o:Obj} (hb:b∈fp) (e:h.get? b=some o):(b,o)∈lL fp h:=List.mem_filterMap.mpr ⟨b,hb,by rw [e];rfl⟩
theorem r8 {fp:List Addr} {h:Heap} {p:Addr×Obj} (hp:p∈lL fp h):p.1∈fp∧h.get? p.1=some p.2:=by
 obtain ⟨b,hb,e⟩:=List.mem_filterMap.mp hp
 cases q:h.get? b with
 | none=>rw [q] at e;cases e
 | some o =>
  rw [q] at e
  have e':(b,o)=p:=Option.some.inj e
  subst e'
  exact⟨hb,q⟩
theorem Inv.pinned {pins:List (Addr×Obj)} {σ:St} {H:Hp} {s:Shared} {fp:List Addr} (I:Inv X pins σ H s) (hf:∀ b∈fp,FpOk X pins H b) (ho:∀ b∈fp,∃ o,s.heap.get? b=some o∧∀ v,o.data≠.cell v):Inv X (pins++lL fp s.heap) σ H s :=
 I.pins_of fun p hp=>(CV.mp hp).elim (fun z=>I.pin p (CT _ z)) fun z=>by
  obtain ⟨hb,e⟩:=r8 z
  obtain ⟨f0,f1,f2,_⟩:=hf p.1 hb
  obtain ⟨o,e',d⟩:=ho p.1 hb
  rw [e] at e';cases e'
  exact⟨e,f0,f1,f2,d⟩
theorem Inv.unpinned {pins pl:List (Addr×Obj)} {σ:St} {H:Hp} {s:Shared} (I:Inv X (pins++pl) σ H s):Inv X pins σ H s:=I.pins_of fun p hp=>I.pin p (CT _ (CU _ hp))
theorem pM {iter:Expr} {body:List Stmt} {wi:TI} {g:TG} {tb:TS} {pos:Pos} (hp:PassesOwn (model X.prog X.w) X.A X.env X.xe) (hc:X.calm=true) (hi:PI X tg iter wi) (hg:PG X tg g) (hb:PSs X body tb)
  (hs:∀ x,foldedSetIterable iter X.env x=pure x:=by intro _;rfl):PS X (.For tg iter body [] pos) (tFor wi g tb):=by
 intro pins s σ H D I h
 refine wpAny_For (thn (hi pins s σ H _ I h) fun v s1 h1=>thn h1 fun itv s2 h2=>?_) hs
 obtain ⟨it,fp,tn,J,H2,e,I2,T,st2,f2,W,⟨m0,w0⟩,turn⟩:=h2
 subst e
 have stat:∀ {H':Hp},(∀ b∈fp,H' b=none)→∀ b∈fp,FpOk X pins H' b:=fun hn b hb=>⟨hn b hb,(f2 b hb).2⟩
 refine codeAny_forLoop_any (fun n s'=>∃ i σ' H',Inv X pins σ' H' s'∧tn i s'.heap∧(∀ b∈fp,H' b=none)∧W i n σ' H') ?_ m0 ⟨0,σ,H2,I2,st2,fun b hb=>(f2 b hb).1,w0⟩
 rintro n s3 ⟨i,σ3,H3,I3,st3,fr3,w3⟩
 rcases turn i n σ3 H3 w3 with ⟨stop,qn⟩ | ⟨go,N,hN,step⟩
 ·refine wpAny_passesOwn hp (thn (T.done X rfl rfl rfl hc i pins s3 σ3 H3 X.xe I3 (stat fr3) st3 stop) fun r s4 ⟨hr,I4⟩=>?_)
  subst hr
  exact wpAny_execs_nil ⟨σ3,H3,I4,qn⟩
 ·refine wpAny_passesOwn hp (thn (T.item X rfl rfl rfl hc i pins s3 σ3 H3 X.xe I3 (stat fr3) st3 go) fun r s4 ⟨u,hr,h4⟩=>?_)
  subst hr
  refine wpAny_passesOwn hp (thn h4 fun _ s5 ⟨x,H5,I5,r5,y5,st5,fr5⟩=>?_)
  have I5':=I5.pinned (stat fr5) (T.obj _ _ st5)
  refine wpAny_passesOwn hp (thn (hg _ s5 σ3 H5 x u _ I5' r5 (step x H5 y5)) fun _ s6 ⟨σ6,H6,I6,q6⟩=>?_)
  refine wpAny_passesOwn hp (thn (hb _ s6 σ6 H6 _ I6 q6) fun f s7 q7=>?_)
  have again:∀ {σ7:St} {H7:Hp},Inv X (pins++lL fp s5.heap) σ7 H7 s7→N σ7 H7→∃ m,m < n∧∃ i σ' H',Inv X pins σ' H' s7∧tn i s7.heap∧(∀ b∈fp,H' b=none)∧W i m σ' H':=fun {σ7 H7} I7 n7=>by
   obtain ⟨m',hm,w7⟩:=hN σ7 H7 n7
   refine⟨m',hm,i + 1,σ7,H7,I7.unpinned,T.keep _ _ _ st5 fun b hb o e=>(I7.pin (b,o) (CT _ (CT _ (eM hb e)))).1,fun b hb=>?_,w7⟩
   obtain ⟨o,e,d⟩:=T.obj _ _ st5 b hb
   exact (I7.pin (b,o) (CT _ (CT _ (eM hb e)))).2.1
  cases f with
  | next=>obtain ⟨σ7,H7,I7,n7⟩:=q7;exact again I7 n7
  | cont=>obtain ⟨σ7,H7,I7,n7⟩:=q7;exact again I7 n7
  | brk=>obtain ⟨σ7,H7,I7,q7⟩:=q7;exact⟨σ7,H7,I7.unpinned,q7⟩
  | ret v=>obtain ⟨x7,σ7,H7,I7,r7,q7⟩:=q7;exact⟨x7,σ7,H7,I7.unpinned,r7,q7⟩
end
theorem tQ {lo:Int} {n:Nat} {g:TG} {tb:TS} {D:Ends} {σ:St} {H:Hp} (Pv:Nat→St→Hp→Prop) (h0:Pv 0 σ H)
  (hs:∀ i σ H,i < n→Pv i σ H→g (.int (lo + i)) σ H fun σ2 H2=>tb { D with nx:=Pv (i + 1),ct:=Pv (i + 1),bk:=D.nx } σ2 H2) (hd:∀ σ H,Pv n σ H→D.nx σ H) :
  ∃ W:Nat→Nat→St→Hp→Prop,(∃ m,W 0 m σ H)∧∀ i m σ H,W i m σ H →
   ((Itr lo n).stop i H∧D.nx σ H)∨((Itr lo n).go i H∧∃ N:St→Hp→Prop,(∀ σ' H',N σ' H'→∃ m',m' < m∧W (i + 1) m' σ' H')∧∀ x H',(Itr lo n).yld i H x H'→g x σ H' fun σ2 H2=>tb { D with nx:=N,ct:=N,bk:=D.nx } σ2 H2):=by
 refine⟨fun i m σ H=>m=n - i∧i≤n∧Pv i σ H,⟨n,by simp,Nat.zero_le _,h0⟩,?_⟩
 rintro i m σ H ⟨rfl,hi,p⟩
 by_cases hlt:i < n
 ·refine .inr ⟨hlt,Pv (i + 1),fun σ' H' p'=>⟨n - (i + 1),by omega,rfl,hlt,p'⟩,fun x H' y=>?_⟩
  obtain ⟨e,y⟩:=y
  subst e y
  exact hs i σ _ hlt p
 ·have e:i=n:=by omega
  subst e
  exact .inl ⟨Nat.le_refl _,hd σ H p⟩
end L2
namespace L2
open PySem PySem.Spec PyProof.Rows
abbrev R2:=V→V→Hp→VK→Prop
def OpR (X:Cx) (f:Value→Value→Sem Value) (r:R2):Prop :=
 ∀ (pins:List (Addr×Obj)) (s:Shared) (σ:St) (H:Hp) (x y:V) (v u:Value) (Q:VK),Inv X pins σ H s→RelV x v→RelV y u→r x y H Q →
  wpAny (model X.prog X.w) X.A (f v u) (EP X pins σ Q) X.xe s
def UnR (X:Cx) (f:Value→Sem Value) (r:V→Hp→VK→Prop):Prop :=
 ∀ (pins:List (Addr×Obj)) (s:Shared) (σ:St) (H:Hp) (x:V) (v:Value) (Q:VK),Inv X pins σ H s→RelV x v→r x H Q →
  wpAny (model X.prog X.w) X.A (f v) (EP X pins σ Q) X.xe s
def cj (X:Cx) (f:Value) (r:List V→Hp→VK→Prop):Prop :=
 ∀ (pins:List (Addr×Obj)) (s:Shared) (σ:St) (H:Hp) (xs:List V) (us:List Value) (Q:VK),Inv X pins σ H s→Vals xs us→r xs H Q →
  wpAny (model X.prog X.w) X.A (call f us) (EP X pins σ Q) X.xe s
def tOp (r:R2) (ta tb:TE):TE:=fun σ H Q=>ta σ H fun x H1=>tb σ H1 fun y H2=>r x y H2 Q
def tUn (r:V→Hp→VK→Prop) (ta:TE):TE:=fun σ H Q=>ta σ H fun x H1=>r x H1 Q
def rI (C:Int→Int→Prop) (g:Int→Int→V):R2:=fun x y H Q=>∃ i j,x=.int i∧y=.int j∧C i j∧Q (g i j) H
def rI0 (g:Int→Int→V):R2:=fun x y H Q=>∃ i j,x=.int i∧y=.int j∧Q (g i j) H
def rU (g:Int→V):V→Hp→VK→Prop:=fun x H Q=>∃ i,x=.int i∧Q (g i) H
section
variable {X:Cx} {a b c:Expr} {ta tb tc:TE} {pos:Pos}
theorem binT (ha:PE X a ta) (hb:PE X b tb) {pins:List (Addr×Obj)} {s:Shared} {σ:St} {H:Hp} {R:V→V→Hp→Prop} (I:Inv X pins σ H s)
  (h:ta σ H fun x H1=>tb σ H1 fun y H2=>R x y H2) {Q:Value→Shared→Prop} {f:Value→Value→Sem Value}
  (hf:∀ v u s2 x y H2,Inv X pins σ H2 s2→RelV x v→RelV y u→R x y H2→wpAny (model X.prog X.w) X.A (f v u) Q X.xe s2) :
  wpAny (model X.prog X.w) X.A (eval a X.env) (fun v s₁=>wpAny (model X.prog X.w) X.A (eval b X.env) (fun u s₂=>wpAny (model X.prog X.w) X.A (f v u) Q X.xe s₂) X.xe s₁) X.xe s:=by
 refine thn (ha pins s σ H _ I h) fun v s1 h_0=>?_
 obtain ⟨x,H1,I1,r1,q1⟩:=h_0
 refine thn (hb pins s1 σ H1 _ I1 q1) fun u s2 h_0=>?_
 obtain ⟨y,H2,I2,r2,q2⟩:=h_0
 exact hf v u s2 x y H2 I2 r1 r2 q2
theorem BV {op:Operator} {r:R2} (ho:OpR X (binaryOp op) r) (ha:PE X a ta) (hb:PE X b tb):PE X (.BinOp a op b pos) (tOp r ta tb):=by
 intro pins s σ H Q I h
 exact wpAny_BinOp (binT ha hb I h fun v u s2 x y H2 I2 rx ry q=>ho pins s2 σ H2 x y v u Q I2 rx ry q)
theorem Ci {op:UnaryOp} {r:V→Hp→VK→Prop} (ho:UnR X (unaryOp op) r) (ha:PE X a ta):PE X (.UnaryOp op a pos) (tUn r ta):=by
 intro pins s σ H Q I h
 exact UnaryOp_ (thn (ha pins s σ H _ I h) fun v s1 h_0=>by obtain ⟨x,H1,I1,r1,q1⟩:=h_0;exact ho pins s1 σ H1 x v Q I1 r1 q1)
theorem opI {f:Value→Value→Sem Value} {C:Int→Int→Prop} {g:Int→Int→Int}
  (rule:∀ (i j:Int) (t u:Tok) (s:Shared) (Q:Value→Shared→Prop) (E:Value→Shared→Prop),C i j→Q (.int (g i j) s.toks) { s with toks:=s.toks + 1 }→wpAny (model X.prog X.w) X.A (f (.int i t) (.int j u)) Q E s) :
  OpR X f (rI C fun i j=>.int (g i j)):=by
 intro pins s σ H x y v u Q I rx ry h
 obtain ⟨i,j,rfl,rfl,hc,q⟩:=h
 obtain ⟨t,rfl⟩:=rx
 obtain ⟨t',rfl⟩:=ry
 exact rule i j t t' s _ _ hc ⟨.int (g i j),H,I.tok _,⟨_,rfl⟩,q⟩
theorem opI0 {f:Value→Value→Sem Value} {g:Int→Int→Int}
  (rule:∀ (i j:Int) (t u:Tok) (s:Shared) (Q:Value→Shared→Prop) (E:Value→Shared→Prop),Q (.int (g i j) s.toks) { s with toks:=s.toks + 1 }→wpAny (model X.prog X.w) X.A (f (.int i t) (.int j u)) Q E s) :
  OpR X f (rI0 fun i j=>.int (g i j)):=by
 intro pins s σ H x y v u Q I rx ry h
 obtain ⟨i,j,rfl,rfl,q⟩:=h
 obtain ⟨t,rfl⟩:=rx
 obtain ⟨t',rfl⟩:=ry
 exact rule i j t t' s _ _ ⟨.int (g i j),H,I.tok _,⟨_,rfl⟩,q⟩
theorem opB0 {f:Value→Value→Sem Value} {g:Int→Int→Bool}
  (rule:∀ (i j:Int) (t u:Tok) (s:Shared) (Q:Value→Shared→Prop) (E:Value→Shared→Prop),Q (.bool (g i j)) s→wpAny (model X.prog X.w) X.A (f (.int i t) (.int j u)) Q E s) :
  OpR X f (rI0 fun i j=>.bl (g i j)):=by
 intro pins s σ H x y v u Q I rx ry h
 obtain ⟨i,j,rfl,rfl,q⟩:=h
 obtain ⟨t,rfl⟩:=rx
 obtain ⟨t',rfl⟩:=ry
 exact rule i j t t' s _ _ ⟨.bl (g i j),H,I,rfl,q⟩
def CPow (i j:Int):Prop:=0≤j∧j≤1000000∧i.natAbs < 2 ^ 64
def CMul (i j:Int):Prop:=(-(2 ^ 64) < i∧i < 2 ^ 64)∨(-(2 ^ 64) < j∧j < 2 ^ 64)
theorem CMul.ok {i j:Int} (h:CMul i j):IntMulOk i j:=by
 rcases h with ⟨h1,h2⟩ | ⟨h1,h2⟩
 ·exact .of_left (intBits_le_64 h1 h2)
 ·exact .of_right (intBits_le_64 h1 h2)
theorem Bi:OpR X (binaryOp .Add) (rI0 fun i j=>.int (i + j)):=opI0 fun _ _ _ _ _ _ _ q=>add_int q
theorem Ad:OpR X (binaryOp .Sub) (rI0 fun i j=>.int (i - j)):=opI0 fun _ _ _ _ _ _ _ q=>sub_int q
theorem yD:OpR X (binaryOp .Mod) (rI (fun _ j=>j≠0) fun i j=>.int (i.fmod j)):=opI fun _ _ _ _ _ _ _ hc q=>mod_int' hc q
theorem AA:OpR X (binaryOp .Pow) (rI CPow fun i j=>.int (i ^ j.toNat)):=opI fun _ _ _ _ _ _ _ hc q=>pow_int_small hc.1 hc.2.1 hc.2.2 q
theorem A8:OpR X (binaryOp .LShift) (rI CPow fun i j=>.int (i * 2 ^ j.toNat)):=opI fun _ _ _ _ _ _ _ hc q=>lshift_int_small hc.1 hc.2.1 hc.2.2 q
theorem unI {f:Value→Sem Value} {g:Int→Int}
  (rule:∀ (i:Int) (t:Tok) (s:Shared) (Q:Value→Shared→Prop) (E:Value→Shared→Prop),Q (.int (g i) s.toks) { s with toks:=s.toks + 1 }→wpAny (model X.prog X.w) X.A (f (.int i t)) Q E s) :
  UnR X f (rU fun i=>.int (g i)):=by
 intro pins s σ H x v Q I rx h
 obtain ⟨i,rfl,q⟩:=h
 obtain ⟨t,rfl⟩:=rx
 exact rule i t s _ _ ⟨.int (g i),H,I.tok _,⟨_,rfl⟩,q⟩
theorem AQ:UnR X (unaryOp .USub) (rU fun i=>.int (-i)):=unI fun _ _ _ _ _ q=>neg_int q
end
def scal:V→V→Bool
 | .non,.non=>true | .non,.int _=>true | .int _,.non=>true | .non,.bl _=>true | .bl _,.non=>true | .non,.str _=>true | .str _,.non=>true
 | .int _,.int _=>true | .bl _,.bl _=>true | .str _,.str _=>true | .byt _,.byt _=>true
 | .int _,.str _=>true | .str _,.int _=>true | .bl _,.str _=>true | .str _,.bl _=>true
 | _,_=>false
def rEq:R2:=fun x y H Q=>scal x y=true∧Q (.bl (decide (x=y))) H
def rNe:R2:=fun x y H Q=>scal x y=true∧Q (.bl (!decide (x=y))) H
theorem mr {i j:Int}:decide (V.int i=V.int j)=(i == j):=by
 rw [Bool.eq_iff_iff]
 simp
theorem sN {i j:Bool}:decide (V.bl i=V.bl j)=(i == j):=by
 rw [Bool.eq_iff_iff]
 simp
theorem mL {i j:Str}:decide (V.str i=V.str j)=(i == j):=by
 rw [Bool.eq_iff_iff]
 simp
theorem tH {i j:Array UInt8}:decide (V.byt i=V.byt j)=(i.toList == j.toList):=by
 rw [Bool.eq_iff_iff]
 cases i
 cases j
 simp
section
variable {X:Cx} {a b c:Expr} {ta tb tc:TE} {pos:Pos}
theorem aX {pins:List (Addr×Obj)} {σ:St} {H:Hp} {s:Shared} {Q:VK} {k k':Bool} (I:Inv X pins σ H s) (q:Q (.bl k) H) (e:k=k'):EP X pins σ Q (.bool k') s:=by
 subst e
 exact⟨.bl k,H,I,rfl,q⟩
theorem yk:OpR X (compareOp .Eq) rEq:=by
 intro pins s σ H x y v u Q I rx ry h
 obtain ⟨hs,q⟩:=h
 cases x with
 | non =>
  cases rx
  cases y with
  | non=>cases ry;exact PySem.EqNone.eq_none_none (aX I q (by simp))
  | bl j=>cases ry;exact PySem.EqNone.eq_none_bool (aX I q (by simp))
  | int j=>obtain ⟨t',rfl⟩:=ry;exact PySem.EqNone.eq_none_int (aX I q (by simp))
  | str j=>obtain ⟨t',rfl⟩:=ry;exact PySem.EqNone.eq_none_str (aX I q (by simp))
  | _=>exact absurd (show false=true from hs) Bool.false_ne_true
 | bl i =>
  cases rx
  cases y with
  | non=>cases ry;exact PySem.EqNone.eq_bool_none (aX I q (by simp))
  | bl j=>cases ry;exact eq_bool (aX I q sN)
  | str j=>obtain ⟨t',rfl⟩:=ry;exact PySem.EqMixed.eq_bool_str (aX I q (by simp))
  | _=>exact absurd (show false=true from hs) Bool.false_ne_true
 | int i =>
  obtain ⟨t,rfl⟩:=rx
  cases y with
  | non=>cases ry;exact PySem.EqNone.eq_int_none (aX I q (by simp))
  | int j=>obtain ⟨t',rfl⟩:=ry;exact eq_int (aX I q mr)
  | str j=>obtain ⟨t',rfl⟩:=ry;exact PySem.EqMixed.eq_int_str (aX I q (by simp))
  | _=>exact absurd (show false=true from hs) Bool.false_ne_true
 | str i =>
  obtain ⟨t,rfl⟩:=rx
  cases y with
  | non=>cases ry;exact PySem.EqNone.eq_str_none (aX I q (by simp))
  | bl j=>cases ry;exact PySem.EqMixed.eq_str_bool (aX I q (by simp))
  | int j=>obtain ⟨t',rfl⟩:=ry;exact PySem.EqMixed.eq_str_int (aX I q (by simp))
  | str j=>obtain ⟨t',rfl⟩:=ry;exact eq_str (aX I q mL)
  | _=>exact absurd (show false=true from hs) Bool.false_ne_true
 | byt i =>
  obtain ⟨t,rfl⟩:=rx
  cases y with
  | byt j=>obtain ⟨t',rfl⟩:=ry;exact PySem.W.eq_bytes (aX I q tH)
  | _=>exact absurd (show false=true from hs) Bool.false_ne_true
 | _=>cases y<;>exact absurd (show false=true from hs) Bool.false_ne_true
theorem xk:OpR X (compareOp .NotEq) rNe:=by
 intro pins s σ H x y v u Q I rx ry h
 obtain ⟨hs,q⟩:=h
 cases x with
 | non =>
  cases rx
  cases y with
  | non=>cases ry;exact PySem.EqNone.ne_none_none (aX I q (by simp))
  | bl j=>cases ry;exact PySem.EqNone.ne_none_bool (aX I q (by simp))
  | int j=>obtain ⟨t',rfl⟩:=ry;exact PySem.EqNone.ne_none_int (aX I q (by simp))
  | str j=>obtain ⟨t',rfl⟩:=ry;exact PySem.EqNone.ne_none_str (aX I q (by simp))
  | _=>exact absurd (show false=true from hs) Bool.false_ne_true
 | bl i =>
  cases rx
  cases y with
  | non=>cases ry;exact PySem.EqNone.ne_bool_none (aX I q (by simp))
  | bl j=>cases ry;exact ne_bool (aX I q (congrArg not sN))
  | str j=>obtain ⟨t',rfl⟩:=ry;exact PySem.EqMixed.ne_bool_str (aX I q (by simp))
  | _=>exact absurd (show false=true from hs) Bool.false_ne_true
 | int i =>
  obtain ⟨t,rfl⟩:=rx
  cases y with
  | non=>cases ry;exact PySem.EqNone.ne_int_none (aX I q (by simp))
  | int j=>obtain ⟨t',rfl⟩:=ry;exact ne_int (aX I q (congrArg not mr))
  | str j=>obtain ⟨t',rfl⟩:=ry;exact PySem.EqMixed.ne_int_str (aX I q (by simp))
  | _=>exact absurd (show false=true from hs) Bool.false_ne_true
 | str i =>
  obtain ⟨t,rfl⟩:=rx
  cases y with
  | non=>cases ry;exact PySem.EqNone.ne_str_none (aX I q (by simp))
  | bl j=>cases ry;exact PySem.EqMixed.ne_str_bool (aX I q (by simp))
  | int j=>obtain ⟨t',rfl⟩:=ry;exact PySem.EqMixed.ne_str_int (aX I q (by simp))
  | str j=>obtain ⟨t',rfl⟩:=ry;exact ne_str (aX I q (congrArg not mL))
  | _=>exact absurd (show false=true from hs) Bool.false_ne_true
 | byt i =>
  obtain ⟨t,rfl⟩:=rx
  cases y with
  | byt j=>obtain ⟨t',rfl⟩:=ry;exact PySem.W.ne_bytes (aX I q (congrArg not tH))
  | _=>exact absurd (show false=true from hs) Bool.false_ne_true
 | _=>cases y<;>exact absurd (show false=true from hs) Bool.false_ne_true
theorem CC:OpR X (compareOp .Lt) (rI0 fun i j=>.bl (decide (i < j))):=opB0 fun _ _ _ _ _ _ _ q=>lt_int q
theorem Cu:OpR X (compareOp .LtE) (rI0 fun i j=>.bl (decide (i≤j))):=opB0 fun _ _ _ _ _ _ _ q=>le_int q
theorem BQ:OpR X (compareOp .Gt) (rI0 fun i j=>.bl (decide (j < i))):=opB0 fun _ _ _ _ _ _ _ q=>gt_int q
theorem Ca:OpR X (compareOp .GtE) (rI0 fun i j=>.bl (decide (j≤i))):=opB0 fun _ _ _ _ _ _ _ q=>ge_int q
theorem Ap:OpR X (compareOp .Is) (fun x y H Q=>y=.non∧Q (.bl (decide (x=.non))) H):=by
 intro pins s σ H x y v u Q I rx ry h
 obtain ⟨rfl,q⟩:=h
 cases ry
 refine is_none_gen (aX I q ?_)
 cases x<;>first
  | (cases rx;rfl)
  | (obtain ⟨t,rfl⟩:=rx;rfl)
theorem OpR.or {f:Value→Value→Sem Value} {r r':R2} (h:OpR X f r) (h':OpR X f r'):OpR X f (fun x y H Q=>r x y H Q∨r' x y H Q):=by
 intro pins s σ H x y v u Q I rx ry q
 rcases q with q | q
 ·exact h pins s σ H x y v u Q I rx ry q
 ·exact h' pins s σ H x y v u Q I rx ry q
theorem aB (b:Expr) {op:CmpOp} (h:op≠.In:=by decide) (h2:op≠.NotIn:=by decide):behindInMarks op b=false:=by
 have e1:(op == CmpOp.In)=false:=by cases op<;>first | rfl | exact absurd rfl h
 have e2:(op == CmpOp.NotIn)=false:=by cases op<;>first | rfl | exact absurd rfl h2
 cases b<;>simp [behindInMarks,e1,e2]
theorem xH {op:CmpOp} {r:R2} (ho:OpR X (compareOp op) r) (ha:PE X a ta) (hb:PE X b tb) (hm:behindInMarks op b=false):PE X (.Compare a [op] [b] pos) (tOp r ta tb):=by
 intro pins s σ H Q I h
 exact wpAny_Compare1 (binT ha hb I h fun v u s2 x y H2 I2 rx ry q=>ho pins s2 σ H2 x y v u Q I2 rx ry q) hm
def BT (t:TE):TT:=fun σ H Q=>t σ H fun x H'=>∃ k,x=.bl k∧Q k H'
theorem y7 {op:CmpOp} {r:R2} (ho:OpR X (compareOp op) r) (ha:PE X a ta) (hb:PE X b tb) (hm:behindInMarks op b=false):PT X (.Compare a [op] [b] pos) (BT (tOp r ta tb)):=by
 intro pins s σ H Q I h
 refine wpAny_isTrue_Compare1 (thn (ha pins s σ H _ I h) fun v s1 ⟨x,H1,I1,r1,q1⟩=>thn (hb pins s1 σ H1 _ I1 q1) fun u s2 ⟨y,H2,I2,r2,q2⟩ =>
  thn (ho pins s2 σ H2 x y v u _ I2 r1 r2 q2) fun c s3 ⟨z,H3,I3,r3,k,e,q3⟩=>?_) hm
 subst e
 cases r3
 exact wpAny_truthy_bool ⟨H3,I3,q3⟩
theorem o8:(sizeLine:Nat) < 2 ^ 63:=by rw [sizeLine_eq];decide
theorem gw {x:V} {us:List Value} (r:Vals [x] us):∃ u,us=[u]∧RelV x u:=by
 cases r with
 | cons r1 r2=>cases r2;exact⟨_,rfl,r1⟩
theorem AU {x y:V} {us:List Value} (r:Vals [x,y] us):∃ u w',us=[u,w']∧RelV x u∧RelV y w':=by
 cases r with
 | cons r1 r2 =>
  cases r2 with
  | cons r3 r4=>cases r4;exact⟨_,_,rfl,r1,r3⟩
theorem vO:cj X (.builtin "abs") (fun xs H Q=>∃ i,xs=[.int i]∧Q (.int (if i < 0 then -i else i)) H):=by
 intro pins s σ H xs us Q I r h
 obtain ⟨i,rfl,q⟩:=h
 obtain ⟨u,rfl,t,rfl⟩:=gw r
 exact call_abs_int fun u tk=>⟨.int (if i < 0 then -i else i),H,I.tok _,⟨_,rfl⟩,q⟩
theorem sZ (hc:X.calm=true):cj X (.builtin "max") (fun xs H Q=>∃ i j,xs=[.int i,.int j]∧Q (.int (if j > i then j else i)) H):=by
 intro pins s σ H xs us Q I r h
 obtain ⟨i,j,rfl,q⟩:=h
 obtain ⟨u,w',rfl,⟨t,rfl⟩,⟨t',rfl⟩⟩:=AU r
 refine max_two_ints (I.ok.hd hc) fun h' tk k=>⟨_,H,I.kept k,?_,q⟩
 by_cases hj:j > i
 ·rw [if_pos hj,if_pos hj];exact⟨_,rfl⟩
 ·rw [if_neg hj,if_neg hj];exact⟨_,rfl⟩
theorem sF:cj X (.type "int") (fun xs H Q=>(∃ i,xs=[.int i]∧Q (.int i) H)∨∃ k,xs=[.bl k]∧Q (.int (if k then 1 else 0)) H):=by
 intro pins s σ H xs us Q I r h
 rcases h with ⟨i,rfl,q⟩ | ⟨k,rfl,q⟩
 ·obtain ⟨u,rfl,t,rfl⟩:=gw r
  exact call_int_int ⟨.int i,H,I,⟨_,rfl⟩,q⟩
 ·obtain ⟨u,rfl,r1⟩:=gw r
  cases r1
  exact call_int_bool ⟨.int (if k then 1 else 0),H,I.tok _,⟨_,rfl⟩,q⟩
end
end L2
namespace L2
open PySem PySem.Spec PyProof.Rows
structure ObjM (h:Heap) (x dx C:Addr) (mA:Str→Option Value):Prop where
 obj:h.get? x=some (PySem.W.instObj C dx)
 ns:h.Ns1 dx mA
 ne:dx≠x
theorem tw {h:Heap} {dx:Addr} {mA:Str→Option Value} (n:h.Ns1 dx mA):∃ od,h.get? dx=some od∧∀ name,PySem.W.lookIn name od=some (mA name):=by
 obtain ⟨o,es,ep,ho,hd,hk,_,hm⟩:=n
 refine⟨o,ho,fun name=>?_⟩
 have e:=hm name
 unfold nsFind findBy at e
 rw [← Array.find?_toList] at e
 unfold PySem.W.lookIn
 rw [hd]
 dsimp only
 split
 ·rename_i y q
  rw [q] at e
  exact congrArg some e
 ·rename_i q
  rw [q] at e
  have a:es.toList.any (·.refKey)=false:=by
   rw [List.any_eq_false]
   intro y hy
   obtain ⟨z,t,hkey⟩:=hk y (Array.mem_toList_iff.mp hy)
   simp [DictEntry.refKey,hkey]
  have a':¬ es.toList.any (·.refKey)=true:=by rw [a];exact Bool.false_ne_true
  rw [if_neg a']
  exact congrArg some e
theorem ObjM.look {h:Heap} {x dx C:Addr} {mA:Str→Option Value} (I:ObjM h x dx C mA):∃ od,PySem.W.InstAt h x (PySem.W.instObj C dx) C (some od)∧∀ name,PySem.W.lookIn name od=some (mA name) :=
 let ⟨od,ho,hl⟩:=tw I.ns
 ⟨od,⟨I.obj,rfl,rfl,ho⟩,hl⟩
section
variable {prog:Program} {w:World} {A:Around} {E:Value→Shared→Prop} {s:Shared} {K:PySem.W.Frag} {x dx C f:Addr} {mA:Str→Option Value} {name:Str} {v:Value}
end
theorem RelO.some_of {v:V} {o:Option Value} (r:RelO (some v) o):∃ u,o=some u∧RelV v u:=by
 cases o with
 | none=>exact (show False from r).elim
 | some u=>exact⟨u,rfl,r⟩
section
variable {P:Program} {w:World} {H H':Hp} {h h':Heap} {a C dx:Addr} {fs fs':List (Str×V)}
theorem zn (hok:HOk P w H h) (e:H a=some (.ins C dx fs)):∃ mA,ObjM h a dx C mA∧(∀ f,RelO (fs.lookup f) (mA f))∧PySem.Within mA (fs.map (·.1))∧fs.length≤1000∧H dx=some (.own a):=by
 obtain ⟨d,z,ne,ob,mA,n,r,q⟩:=(show cc P w H h a (.ins C dx fs) from hok a _ e)
 exact⟨mA,⟨ob,n,ne⟩,r,q,z,d⟩
end
structure Cls (K:PySem.W.Frag) (C:Addr):Prop where
 pg:PySem.W.plainGet K C Str.empty=true
 hd:PySem.W.hasDictIn K C=true
 po:PySem.W.plainOver K C=true
 sa:PySem.W.findIn K (.ref C) "__setattr__"=some (some (.builtin "object.__setattr__"))
theorem Cls.get {K:PySem.W.Frag} {C:Addr} (c:Cls K C) (f:Str):PySem.W.plainGet K C f=true:=c.pg
section
variable {X:Cx} {pins:List (Addr×Obj)} {σ:St} {H:Hp} {s:Shared} {a C dx:Addr} {fs:List (Str×V)} {f:Str} {v:V} {A:Around} {E:Value→Shared→Prop}
end
section
variable {X:Cx} {o e value:Expr} {f:Str} {pos pos' tpos:Pos} {ta tv:TE}
end
section
variable {X:Cx} {pins:List (Addr×Obj)} {σ:St} {H:Hp} {s:Shared} {A:Around} {E:Value→Shared→Prop} {Q:Value→Shared→Prop} {c:Value} {b:Bool}
inductive TyOf (K:PySem.W.Frag) (H:Hp):V→Value→Prop where
 | non:TyOf K H .non (.type "NoneType")
 | bl (x:Bool):TyOf K H (.bl x) (.type "bool")
 | int (i:Int):TyOf K H (.int i) (.type "int")
 | str (x:Str):TyOf K H (.str x) (.type "str")
 | flt (x:UInt64):TyOf K H (.flt x) (.type "float")
 | lst {a:Addr} {xs:List V} (e:H a=some (.lst xs)):TyOf K H (.ref a) (.type "list")
 | frz {a:Addr} {o:Obj} {xs:List V} (e:H a=some (.frz o (.lst xs))):TyOf K H (.ref a) (.type "list")
 | tup {a:Addr} {xs:List V} (e:H a=some (.tup xs)):TyOf K H (.ref a) (.type "tuple")
 | dK {a:Addr} {kvs:List (Key×V)} (e:H a=some (.dK kvs)):TyOf K H (.ref a) (.type "dict")
 | dT {a:Addr} {kvs:List (List Key×V)} (e:H a=some (.dT kvs)):TyOf K H (.ref a) (.type "dict")
 | ins {a C dx:Addr} {fs:List (Str×V)} (e:H a=some (.ins C dx fs)) (cl:Cls K C) (ha:PySem.W.findIn K (.ref C) "__class__"=some (some (.builtin "object.__class__")))
   (hn:PySem.W.specialIn K (.builtin "object.__class__") "__get__"=some (some (.builtin "getset_descriptor.__get__"))) (htk:PySem.W.takesIn K (.builtin "object.__class__")=some true)
   (hm:PySem.W.mroIn K C (.type "object")=some true):TyOf K H (.ref a) (.ref C)
theorem dz {x:V} {u t:Value} (I:Inv X pins σ H s) (rx:RelV x u) (ty:TyOf X.K H x t) (e:PySem.W.kitOne X.K t c=some b) (h:∀ tk,Q (.bool b) { s with toks:=tk }) :
  wpAny (model X.prog X.w) A (call (.builtin "isinstance") [u,c]) Q E s:=by
 cases ty with
 | non=>cases (show u=Value.none from rx);exact PySem.W.kia_one PySem.W.kitx_none I.kIn True.intro e (fun z=>nomatch z) h
 | bl y=>cases (show u=Value.bool y from rx);exact PySem.W.kia_one PySem.W.kitx_bool I.kIn True.intro e (fun z=>nomatch z) h
 | int i=>obtain ⟨t,q⟩:=(show ∃ t,u=Value.int i t from rx);cases q;exact PySem.W.kia_one PySem.W.kitx_int I.kIn True.intro e (fun z=>nomatch z) h
 | str y=>obtain ⟨t,q⟩:=(show ∃ t,u=Value.str y t from rx);cases q;exact PySem.W.kia_one PySem.W.kitx_str I.kIn True.intro e (fun z=>nomatch z) h
 | flt y=>obtain ⟨t,q⟩:=(show ∃ t,u=Value.float y t from rx);cases q;exact PySem.W.kia_one PySem.W.kitx_float I.kIn True.intro e (fun z=>nomatch z) h
 | @lst a xs ea =>
  cases (show u=Value.ref a from rx)
  obtain ⟨_,_,n,_,h1⟩:=(show cc X.prog X.w H s.heap a (.lst xs) from I.hok a _ ea)
  exact PySem.W.kia_one PySem.W.kitx_list I.kIn ⟨_,h1,rfl⟩ e (fun z=>nomatch z) h
 | @frz a ob xs ea =>
  cases (show u=Value.ref a from rx)
  obtain ⟨_,_,_,n,_,h1⟩:=(show cc X.prog X.w H s.heap a (.frz ob (.lst xs)) from I.hok a _ ea)
  exact PySem.W.kia_one PySem.W.kitx_list I.kIn ⟨_,h1,rfl⟩ e (fun z=>nomatch z) h
 | @tup a xs ea =>
  cases (show u=Value.ref a from rx)
  obtain ⟨_,_,_,p⟩:=(show cc X.prog X.w H s.heap a (.tup xs) from I.hok a _ ea)
  obtain ⟨o,h1,h2,_⟩:=p
  exact PySem.W.kia_one PySem.W.kitx_tuple I.kIn ⟨o,h1,h2⟩ e (fun z=>nomatch z) h
 | @dK a kvs ea =>
  cases (show u=Value.ref a from rx)
  obtain ⟨_,_,vs,_,p⟩:=(show cc X.prog X.w H s.heap a (.dK kvs) from I.hok a _ ea)
  obtain ⟨o,es,ep,h1,h2,_⟩:=p
  exact PySem.W.kia_one PySem.W.kitx_dict I.kIn ⟨o,h1,h2.1⟩ e (fun z=>nomatch z) h
 | @dT a kvs ea =>
  cases (show u=Value.ref a from rx)
  obtain ⟨_,_,xs,_,o,es,ep,h1,h2,_⟩:=(show cc X.prog X.w H s.heap a (.dT kvs) from I.hok a _ ea)
  exact PySem.W.kia_one PySem.W.kitx_dict I.kIn ⟨o,h1,h2.1⟩ e (fun z=>nomatch z) h
 | @ins a C dx fs ea cl ha hn htk hm =>
  cases (show u=Value.ref a from rx)
  obtain ⟨mA,O,_⟩:=zn I.hok ea
  obtain ⟨od,J,_⟩:=O.look
  exact PySem.W.kia_one (PySem.W.kitx_own (cl.get _) cl.hd ha hn htk hm) I.kIn J e (fun z=>nomatch z) h
end
end L2
namespace L2
open PySem PySem.Spec PyProof.Rows
structure Room (k:Nat) (A:Around):Prop where
 hd:A.handled=none
 dp:A.depth + 3 * k + 5 < recursionLimit
 un:A.units + 16 * k + 200 < cLine
theorem Room.mono {j k:Nat} {A:Around} (r:Room k A) (h:j≤k):Room j A:=⟨r.hd,by have:=r.dp;omega,by have:=r.un;omega⟩
theorem Room.deeper {k:Nat} {A:Around} (r:Room (k + 1) A) (env:Env):Room k (A.deeper env) :=
 ⟨r.hd,by have:=r.dp;show A.depth + 1 + 3 * k + 5 < _;omega,by have:=r.un;show A.units + 3 + 16 * k + 200 < _;omega⟩
theorem Room.depth {k:Nat} {A:Around} (r:Room k A):A.depth < recursionLimit:=by have:=r.dp;omega
theorem Room.units {k:Nat} {A:Around} (r:Room k A):A.units + 64 < cLine:=by have:=r.un;omega
def tNil:TA:=fun _ H Q=>Q [] H
def BS (ta:TE) (tr:TA):TA:=fun σ H Q=>ta σ H fun x H1=>tr σ H1 fun xs H2=>Q (x :: xs) H2
section
variable {X:Cx} {e:Expr} {es:List Expr} {te:TE} {t:TA} {pos:Pos}
theorem eR:PA X [] tNil:=fun _ _ _ _ H Q I h=>Calls.spliced_nil ⟨[],H,I,.nil,h⟩
theorem bQ (ha:PE X e te) (hr:PA X es t) (hs:starEach (e :: es) X.env=(false,eval e X.env) :: starEach es X.env:=by rfl):PA X (e :: es) (BS te t):=by
 intro pos pins s σ H Q I h
 rw [hs]
 show wpAny _ _ (spliced ((false,eval e X.env) :: backTo pos (starEach es X.env))) _ _ s
 refine Calls.spliced_cons (thn (ha pins s σ H _ I h) fun u s1 ⟨x,H1,I1,r1,q1⟩=>?_)
 exact thn (hr pos pins s1 σ H1 _ I1 q1) fun us s2 h_0=>by obtain ⟨xs,H2,I2,r2,q2⟩:=h_0;exact⟨x :: xs,H2,I2,.cons r1 r2,q2⟩
def tTup (t:TA):TE:=fun σ H Q=>t σ H fun xs H1=>xs.length≤sizeLine∧∀ p,H1 p=none→Q (.ref p) (upd H1 p (.tup xs))
def tLst (t:TA):TE:=fun σ H Q=>t σ H fun xs H1=>xs.length≤sizeLine∧∀ p,H1 p=none→Q (.ref p) (upd H1 p (.lst xs))
theorem zU {x1} (h:PA X es t):PE X (.Tuple es x1 pos) (tTup t):=by
 intro pins s σ H Q I hq
 refine wpAny_Tuple_spliced (thn (h pos pins s σ H _ I hq) fun us s1 ⟨xs,H1,I1,r,z,q⟩=>⟨by rw [← r.length];exact z,?_⟩)
 have hf:H1 s1.heap.objs.size=none:=I1.hok.fresh (Nat.le_refl _)
 refine⟨.ref s1.heap.objs.size,upd H1 s1.heap.objs.size (.tup xs),I1.laid (t':=s1.toks) (fun b u e=>CO _ e) (Nat.le_refl _) ?_,rfl,q _ hf⟩
 exact⟨z,us,r,⟨_,Da _ rfl,rfl,_,rfl⟩⟩
theorem tT (h:PA X es t):PE X (.List es pos) (tLst t):=by
 intro pins s σ H Q I hq
 refine wpAny_List_spliced (thn (h pos pins s σ H _ I hq) fun us s1 ⟨xs,H1,I1,r,z,q⟩=>⟨by rw [← r.length];exact z,?_⟩)
 have hf:H1 s1.heap.objs.size=none:=I1.hok.fresh (Nat.le_refl _)
 refine⟨.ref s1.heap.objs.size,upd H1 s1.heap.objs.size (.lst xs),I1.laid (t':=s1.toks) (fun b u e=>CO _ e) (Nat.le_refl _) ?_,rfl,q _ hf⟩
 exact⟨z,us,0,r,Da _ rfl⟩
end
abbrev Sp:=List V→Hp→VK→XK→Prop
abbrev CXT:=List Env→Hp→Shared→XK→Value→Shared→Prop
structure Env0 (P:Program) (w:World) (K:PySem.W.Frag) (mg:Str→Option Value) (base:Heap) (A:Around) (outer:List Env) (s:Shared) (H:Hp):Prop where
 frames:A.frames=some outer
 mod:Mod K mg base
 bs:∀ b o,base.get? b=some o→s.heap.get? b=some o∧H b=none
 bsz:base.objs.size≤s.heap.objs.size
 funs:s.heap.FunFrames base outer
 frf:∀ b∈frs outer,H b=none
 hok:HOk P w H s.heap
 bare:AllBare s.gens
def CE (outer:List Env) (P:Program) (w:World) (H:Hp) (s:Shared) (Q:VK) (u:Value) (s':Shared):Prop :=
 ∃ v H',s'.os=s.os∧AllBare s'.gens∧Un (frs outer) [] H H' s.heap s'.heap∧HOk P w H' s'.heap∧RelV v u∧Q v H'
def CR (CX:CXT) (outer:List Env) (P:Program) (w:World) (H:Hp) (s:Shared) (Q:VK) (E:XK) (r:Result) (s':Shared):Prop :=
 match r with
 | .ok (.ret u)=>CE outer P w H s Q u s'
 | .ok _=>False
 | .error e=>CX outer H s E e s'
structure FnOk (P:Program) (w:World) (K:PySem.W.Frag) (mg:Str→Option Value) (base:Heap) (CX:CXT) (k:Nat) (f:Addr) (fd:FuncData) (ps:List Str) (sp:Sp):Prop where
 len:∀ vs H Q E,sp vs H Q E→vs.length=ps.length
 run:∀ (A:Around) (outer:List Env) (s:Shared) (H:Hp) (args:Args) (us:List Value) (vs:List V) (Q:VK) (E:XK),Room k A→Env0 P w K mg base A outer s H→BindsTo s fd args (ps.zip us)→Vals vs us→sp vs H Q E →
  codeAny (model P w) A (.call (.ref f) args) (CR CX outer P w H s Q E) s
theorem FnOk.mono {P:Program} {w:World} {K:PySem.W.Frag} {mg:Str→Option Value} {base:Heap} {CX:CXT} {j k:Nat} {f:Addr} {fd:FuncData} {ps:List Str} {sp:Sp} (F:FnOk P w K mg base CX j f fd ps sp) (h:j≤k) :
  FnOk P w K mg base CX k f fd ps sp:=⟨F.len,fun A outer s H args us vs Q E hr=>F.run A outer s H args us vs Q E (hr.mono h)⟩
theorem FnOk.imp {P:Program} {w:World} {K:PySem.W.Frag} {mg:Str→Option Value} {base:Heap} {CX:CXT} {k:Nat} {f:Addr} {fd:FuncData} {ps:List Str} {sp sp':Sp} (F:FnOk P w K mg base CX k f fd ps sp)
  (h:∀ vs H Q E,sp' vs H Q E→sp vs H Q E):FnOk P w K mg base CX k f fd ps sp' :=
 ⟨fun vs H Q E q=>F.len vs H Q E (h _ _ _ _ q),fun A outer s H args us vs Q E hr he hb hv hs=>F.run A outer s H args us vs Q E hr he hb hv (h _ _ _ _ hs)⟩
section
variable {X:Cx} {pins:List (Addr×Obj)} {σ:St} {H:Hp} {s s':Shared}
theorem Inv.env0 (I:Inv X pins σ H s):Env0 X.prog X.w X.K X.mg X.base X.A X.stack s H :=
 ⟨I.ok.frames,I.ok.mod,I.bs,CN I.ok.bsz I.sz,I.stack,I.stkFree,I.hok,I.bare⟩
theorem Inv.after {Q:VK} {u:Value} (I:Inv X pins σ H s) (h:CE X.stack X.prog X.w H s Q u s'):EP X pins σ Q u s':=by
 obtain ⟨v,H',os,bare,un,hok,r,q⟩:=h
 obtain ⟨hh,g,d,t,os'⟩:=s'
 obtain rfl:os'=s.os:=os
 exact⟨v,H',I.call (h':=hh) (g':=g) (d':=d) (t':=t) (ch:=[]) un hok bare (fun b z=>absurd z (by simp)),r,q⟩
end
def Cd (sp:Sp) (dvs:List V) (E:XK) (t:TA):TE:=fun σ H Q=>t σ H fun vs H1=>sp (vs++dvs) H1 Q E
def lS (K:PySem.W.Frag) (fd:FuncData) (ps:List Str) (ds:List Value):Prop :=
 ∀ (s:Shared) (us:List Value),K.In s.heap→(us++ds).length=ps.length→BindsTo s fd ⟨us,[]⟩ (ps.zip (us++ds))
theorem lS.all {K:PySem.W.Frag} {fd:FuncData} {ps:List Str} (h:∀ us:List Value,us.length=ps.length→bindArgs fd ⟨us,[]⟩=pure (ps.zip us)):lS K fd ps []:=fun s us _ hl=>by
 rw [List.append_nil] at hl ⊢
 exact .of_eq (h us hl)
def sX (CX:CXT) (X:Cx) (E:XK):Prop:=∀ (pins:List (Addr×Obj)) (σ:St) (H:Hp) (s:Shared) (e:Value) (s':Shared),Inv X pins σ H s→CX X.stack H s E e s'→X.xe e s'
section
variable {X:Cx} {CX:CXT} {k:Nat} {f C:Addr} {fd:FuncData} {ps:List Str} {sp:Sp} {dvs:List V} {ds:List Value} {E:XK} {x m:Str} {p pos apos:Pos} {e o:Expr} {es:List Expr} {ta:TE} {t:TA}
theorem zZ {pins:List (Addr×Obj)} {σ:St} {H:Hp} {s:Shared} {Q:VK} {us:List Value} {vs:List V} (F:FnOk X.prog X.w X.K X.mg X.base CX k f fd ps sp) (hr:Room k X.A) (hb:lS X.K fd ps ds) (hd:Vals dvs ds) (hx:sX CX X E)
  (I:Inv X pins σ H s) (r:Vals vs us) (h:sp (vs++dvs) H Q E):wpAny (model X.prog X.w) X.A (call (.ref f) us) (EP X pins σ Q) X.xe s:=by
 have r2:Vals (vs++dvs) (us++ds):=r.append hd
 have hl:(us++ds).length=ps.length:=by rw [← r2.length];exact F.len _ _ _ _ h
 refine wpAny_call (codeAny_mono (F.run X.A X.stack s H ⟨us,[]⟩ (us++ds) (vs++dvs) Q E hr I.env0 (hb s us I.kIn hl) r2 h) fun r s' hq=>?_)
 cases r with
 | error e=>exact hx pins σ H s e s' I hq
 | ok fl =>
  cases fl with
  | ret u=>exact I.after hq
  | next=>exact False.elim hq
  | brk=>exact False.elim hq
  | cont=>exact False.elim hq
theorem ki (F:FnOk X.prog X.w X.K X.mg X.base CX k f fd ps sp) (hr:Room k X.A) (hg:Gl X x) (hm:X.mg x=some (.ref f)) (hk:PySem.W.keepIn X.K (.ref f)=true) (hb:lS X.K fd ps ds) (hd:Vals dvs ds) (hx:sX CX X E)
  (ha:PA X (e :: es) t) (hdb:(x == ("__debug__":Str))=false:=by decide) (he:starEach (e :: es) X.env=(false,eval e X.env) :: starEach es X.env:=by rfl) (hpl:(backTo pos (starEach es X.env)).any (·.1)=false:=by rfl) :
  PE X (.Call (.Name x p) (e :: es) [] pos) (Cd sp dvs E t):=by
 intro pins s σ H Q I h
 refine wpAny_Call_Name_kw (tW I hg hm ?_ hdb)
 refine PySem.W.callWith_K (h₀:=X.base) I.ok.mod.kin hk (thn (ha pos pins s σ H _ I h) fun us s1 ⟨vs,H1,I1,r,q⟩=>⟨I1.kIn,?_⟩) he hpl
 exact zZ F hr hb hd hx I1 r q
end
section
variable {X:Cx} {CX:CXT} {k:Nat} {f C:Addr} {fd:FuncData} {ps ks:List Str} {sp:Sp} {E:XK} {x m:Str} {p pos apos kpos:Pos} {e o:Expr} {es:List Expr} {kws:List Keyword} {te ta:TE} {t tk:TA} {nm:Option Str}
variable {g:List Value→List Value→List Value} {gV:List V→List V→List V}
end
structure ax (N P:List Str) (sc:Scope):Prop where
 kind:sc.kind=.function
 co:sc.isCoroutine=false
 gen:sc.isGenerator=false
 nd:N.Nodup
 pre:N.take P.length=P
 par:∀ x∈P,sc.names.lookup x=some .local∨sc.names.lookup x=some .cell
 nofree:∀ y∈sc.names,y.2≠.free
theorem l8 {kindOf:Str→Option NameKind} {x:Str}:∀ {binds:List (Str×Value)} {m:Str→Option Value},(∀ v,(x,v)∉binds)→bindL kindOf binds m x=m x
 | [],_,_=>rfl
 | (n,v) :: r,m,h=>by
  unfold bindL
  rw [l8 fun w hw=>h w (CL _ hw)]
  split
  ·have:x≠n:=by rintro rfl;exact h v CP
   simp [this]
  ·rfl
theorem lV {kindOf:Str→Option NameKind} {x:Str}:∀ {binds:List (Str×Value)} {m:Str→Option Value},(∀ v,(x,v)∉binds)→bindC kindOf binds m x=m x
 | [],_,_=>rfl
 | (n,v) :: r,m,h=>by
  unfold bindC
  rw [lV fun w hw=>h w (CL _ hw)]
  split
  ·rfl
  ·have:x≠n:=by rintro rfl;exact h v CP
   simp [this]
theorem lx {kindOf:Str→Option NameKind} {x:Str} {v:Value}:∀ {P:List Str} {vs:List Value} {i:Nat} {m:Str→Option Value},P.Nodup→P[i]?=some x→vs[i]?=some v→kindOf x=some .local →
  bindL kindOf (P.zip vs) m x=some v
 | [],_,_,_,_,h,_,_=>by simp at h
 | _ :: _,[],_,_,_,_,h,_=>by simp at h
 | p :: P,w :: vs,0,m,nd,h1,h2,hk=>by
  simp at h1 h2;subst h1;subst h2
  show bindL kindOf ((p,w) :: P.zip vs) m p=_
  unfold bindL
  rw [l8 fun v hv=>(List.nodup_cons.mp nd).1 (Di hv).1,if_pos hk]
  simp
 | p :: P,w :: vs,i + 1,m,nd,h1,h2,hk=>by
  show bindL kindOf ((p,w) :: P.zip vs) m x=_
  unfold bindL
  exact lx (i:=i) (List.nodup_cons.mp nd).2 (by simpa using h1) (by simpa using h2) hk
theorem lT {kindOf:Str→Option NameKind} {x:Str} {v:Value}:∀ {P:List Str} {vs:List Value} {i:Nat} {m:Str→Option Value},P.Nodup→P[i]?=some x→vs[i]?=some v→kindOf x≠some .local →
  bindC kindOf (P.zip vs) m x=some v
 | [],_,_,_,_,h,_,_=>by simp at h
 | _ :: _,[],_,_,_,_,h,_=>by simp at h
 | p :: P,w :: vs,0,m,nd,h1,h2,hk=>by
  simp at h1 h2;subst h1;subst h2
  show bindC kindOf ((p,w) :: P.zip vs) m p=_
  unfold bindC
  rw [lV fun v hv=>(List.nodup_cons.mp nd).1 (Di hv).1,if_neg hk]
  simp
 | p :: P,w :: vs,i + 1,m,nd,h1,h2,hk=>by
  show bindC kindOf ((p,w) :: P.zip vs) m x=_
  unfold bindC
  exact lT (i:=i) (List.nodup_cons.mp nd).2 (by simpa using h1) (by simpa using h2) hk
def start (N:List Str) (vs:List V):St:=vs.map some++List.replicate (N.length - vs.length) none
def cxOf (CX:CXT) (P:Program) (w:World) (K:PySem.W.Frag) (mg:Str→Option Value) (base:Heap) (N:List Str) (qual:Str) (scope:Scope) (f:Addr) (cd:Value) (A:Around) (outer:List Env) (s:Shared) (H:Hp) (E:XK):Cx where
 prog:=P
 w:=w
 K:=K
 mg:=mg
 base:=base
 A:=A.deeper (envOfC qual scope s.heap.objs.size f cd)
 N:=N
 s₀:=s
 H₀:=H
 env:=envOfC qual scope s.heap.objs.size f cd
 outer:=outer
 stack:=envOfC qual scope s.heap.objs.size f cd :: outer
 ex:=[]
 calm:=true
 fn:=fun _=>true
 pn:=[]
 xe:=fun e s'=>wpAny (model P w) (A.deeper (envOfC qual scope s.heap.objs.size f cd)) (leaving (envOfC qual scope s.heap.objs.size f cd) e) (fun _ s''=>CX outer H s E e s'') (fun e' s''=>CX outer H s E e' s'') s'
theorem pv {sc:Scope} {n:Nat} {x:Str} (h:sc.names.lookup x=some .cell):∃ c,(cellsFrom n sc.names []).lookup x=some c:=by
 have q:=PySem.W.cellsFrom_some sc.names n [] (.inl h)
 exact Option.isSome_iff_exists.mp q
theorem rc {CX:CXT} {P:Program} {w:World} {K:PySem.W.Frag} {mg:Str→Option Value} {base:Heap} {N ps:List Str} {qual:Str} {scope:Scope} {f:Addr} {cd:Value} {A:Around} {outer:List Env} {s s1:Shared} {H:Hp} {E:XK} {us:List Value} {vs:List V}
  (S:ax N ps scope) (hd:A.handled=none) (e0:Env0 P w K mg base A outer s H) (hl:vs.length=ps.length) (r:Vals vs us)
  (x:InCallC s s.heap.objs.size (bindL (envOfC qual scope s.heap.objs.size f cd).kindOf (ps.zip us) fun _=>none) (cellsFrom (s.heap.objs.size + 1) scope.names []) (bindC (envOfC qual scope s.heap.objs.size f cd).kindOf (ps.zip us) fun _=>none) s1) :
  Inv (cxOf CX P w K mg base N qual scope f cd A outer s H E) [] (start N vs) H s1:=by
 have hpl:ps.length≤N.length:=by have:=congrArg List.length S.pre;rw [De] at this;omega
 obtain ⟨h1,tk,rfl,hk⟩:=x.done
 have noA:∀ b:Addr,b∉(cxOf CX P w K mg base N qual scope f cd A outer s H E).ex:=fun b z=>absurd (show b∈([]:List Addr) from z) (by simp)
 refine⟨⟨e0.mod,S.kind,rfl,rfl,Nat.le_refl _,fun y z c h1 h2=>?_,fun y hy=>?_,fun y c _ h=>?_,fun _=>hd,Around.frames_deeper e0.frames,.inr ⟨rfl,rfl⟩,fun b z=>absurd z (noA b),e0.bs,e0.bsz,fun b _ _=>noA b,fun b z=>absurd z (noA b),e0.funs,e0.frf⟩,
  rfl,e0.bare,Un.kept hk,⟨_,x.toInCall.ns,fun i y v h1 h2 h3=>?_⟩,fun y c h=>⟨_,x.cell y c h⟩,e0.hok.fresh (Nat.le_refl _),fun y c h=>?_,fun p hp=>absurd (show p∈([]:List (Addr×Obj)) from hp) (by simp),e0.hok.kept hk,?_⟩
 ·exact name_of_addr x.apart (PySem.mem_of_lookup h1) (PySem.mem_of_lookup h2)
 ·have hy:scope.names.lookup y=some .cell∨scope.names.lookup y=some .free:=hy
  rcases hy with hy | hy
  ·exact pv hy
  ·exact absurd rfl (S.nofree _ (PySem.mem_of_lookup hy))
 ·exact Nat.le_of_lt (x.above y c (PySem.mem_of_lookup h))
 ·have hi:i < vs.length:=by
   unfold start at h2
   by_cases hi:i < vs.length
   ·exact hi
   ·rw [C8 (by simpa using hi)] at h2
    rw [List.getElem?_replicate] at h2
    split at h2<;>cases h2
  have ha:vs[i]?=some v:=by
   unfold start at h2
   rw [C9 (by simpa using hi),C0] at h2
   cases e:vs[i]? with
   | none=>rw [e] at h2;cases h2
   | some a=>rw [e] at h2;cases h2;rfl
  obtain ⟨u,hu,rv⟩:=r.get ha
  have hp:ps[i]?=some y:=by
   rw [← S.pre,List.getElem?_take_of_lt (by omega)];exact h1
  have ndP:ps.Nodup:=by rw [← S.pre];exact S.nd.sublist (List.take_sublist _ _)
  refine⟨u,rv,?_⟩
  rcases S.par y (C1 hp) with k | k
  ·exact .inl ⟨k,lx ndP hp hu k⟩
  ·obtain ⟨c,e⟩:=pv (n:=s.heap.objs.size + 1) k
   refine .inr ⟨.inl k,c,e,?_⟩
   have q:=x.cell y c e
   rw [lT ndP hp hu (by show scope.names.lookup y≠_;rw [k];decide)] at q
   exact q
 ·exact e0.hok.fresh (Nat.le_of_lt (x.above y c (PySem.mem_of_lookup h)))
 ·unfold start
  show _=N.length
  rw [CW,CK,C6]
  omega
theorem BR {CX:CXT} {P:Program} {w:World} {K:PySem.W.Frag} {mg:Str→Option Value} {base:Heap} {k:Nat} {f:Addr} {name qual:Str} {params:Arguments} {body:List Stmt} {scope:Scope} {dV kV doc pm cdv ct oc:Value} {an od:Option Addr}
    {osl:Array (Option Value)} {N ps:List Str} {sp:Sp} (lk:K.lookup f=some ⟨oc,od,.func (PySem.W.fnOf name qual params body scope dV kV doc pm an cdv ct),osl⟩) (hcd:PySem.W.codeIn K cdv qual=true) (S:ax N ps scope)
    (len:∀ vs H Q E,sp vs H Q E→vs.length=ps.length)
    (hbody:∀ (A:Around) (outer:List Env) (s:Shared) (H:Hp) (vs:List V) (Q:VK) (E:XK),Room k (A.deeper (envOfC qual scope s.heap.objs.size f cdv))→sp vs H Q E →
      ∃ t,PSs (cxOf CX P w K mg base N qual scope f cdv A outer s H E) body t∧t { nx:=fun _ H'=>Q .non H',rt:=Q } (start N vs) H) :
    FnOk P w K mg base CX (k + 1) f (PySem.W.fnOf name qual params body scope dV kV doc pm an cdv ct) ps sp:=by
  refine⟨len,fun A outer s H args us vs Q E hr e0 hb r hsp=>?_⟩
  have hl:=len _ _ _ _ hsp
  have KX:K.In s.heap:=e0.mod.kin.keeps fun b o e=>(e0.bs b o e).1
  have lim:s.heap.NoLimit:=e0.mod.nolimit.keeps fun b o e=>(e0.bs b o e).1
  have hkind:∀ y∈ps.zip us,scope.names.lookup y.1=some .local∨(scope.names.lookup y.1=some .cell∧((cellsFrom (s.heap.objs.size + 1) scope.names []).lookup y.1).isSome=true):=fun ⟨n,v⟩ hy=>by
    rcases S.par n (Di hy).1 with q | q
    · exact .inl q
    · exact .inr ⟨q,PySem.W.cellsFrom_some _ _ _ (.inl q)⟩
  refine codeAny_call_function hr.depth (KX _ _ lk) rfl S.co S.gen rfl (PySem.W.codeRec_of KX hcd) (hb _ _ _ _ ?_)
  refine wpAny_newFunctionEnv_cells S.kind hkind fun env he s1 x=>?_
  subst he
  refine⟨lim.keeps x.toInCall.keep,codeAny_func ?_⟩
  obtain ⟨t,ht,hq⟩:=hbody A outer s H vs Q E (hr.deeper _) hsp
  have I:Inv (cxOf CX P w K mg base N qual scope f cdv A outer s H E) [] (start N vs) H s1:=rc S hr.hd e0 hl r x
  refine wpAny_mono (ht [] s1 (start N vs) H _ I hq) (fun fl s' hs=>?_) fun e s' hs=>hs
  have fin:∀ {σ':St} {H':Hp} {v:V} {u:Value},Inv (cxOf CX P w K mg base N qual scope f cdv A outer s H E) [] σ' H' s'→RelV v u→Q v H'→CE outer P w H s Q u s' :=
    fun {σ' H' v u} J rv q=>⟨v,H',J.os,J.bare,J.base,J.hok,rv,q⟩
  cases fl with
  | ret u =>
    obtain ⟨v,σ',H',J,rv,q⟩:=hs
    exact fin J rv q
  | next =>
    obtain ⟨σ',H',J,q⟩:=hs
    exact fin (v:=V.non) (u:=Value.none) J rfl q
  | brk =>
    obtain ⟨_,_,_,q⟩:=hs
    exact False.elim q
  | cont =>
    obtain ⟨_,_,_,q⟩:=hs
    exact False.elim q
end L2
namespace L2
open PySem PySem.Spec PyProof.Rows
section
variable {X:Cx} {x:Str} {p pos:Pos} {e:Expr} {es:List Expr} {t:TA} {id T:String} {r:List V→Hp→VK→Prop}
def tCB (r:List V→Hp→VK→Prop) (t:TA):TE:=fun σ H Q=>t σ H fun vs H1=>r vs H1 Q
theorem kc (hc:cj X (.builtin id) r) (hg:Gl X x) (hm:X.mg x=none) (hv:bootBuiltins x=some (.builtin id)) (ha:PA X (e :: es) t) (hn:x≠"__name__":=by decide) (hdb:(x == ("__debug__":Str))=false:=by decide)
  (he:starEach (e :: es) X.env=(false,eval e X.env) :: starEach es X.env:=by rfl) (hpl:(backTo pos (starEach es X.env)).any (·.1)=false:=by rfl):PE X (.Call (.Name x p) (e :: es) [] pos) (tCB r t):=by
 intro pins s σ H Q I h
 refine wpAny_Call_Name_kw (jh I hg hm hv ?_ hn hdb)
 exact PyProof.Rows.callWith_builtin1 (thn (ha pos pins s σ H _ I h) fun us s1 h_0=>by obtain ⟨vs,H1,I1,r1,q1⟩:=h_0;exact hc pins s1 σ H1 vs us Q I1 r1 q1) he hpl
theorem iW (hc:cj X (.type T) r) (hg:Gl X x) (hm:X.mg x=none) (hv:bootBuiltins x=some (.type T)) (ha:PA X (e :: es) t) (hn:x≠"__name__":=by decide) (hdb:(x == ("__debug__":Str))=false:=by decide)
  (he:starEach (e :: es) X.env=(false,eval e X.env) :: starEach es X.env:=by rfl) (hpl:(backTo pos (starEach es X.env)).any (·.1)=false:=by rfl):PE X (.Call (.Name x p) (e :: es) [] pos) (tCB r t):=by
 intro pins s σ H Q I h
 refine wpAny_Call_Name_kw (jh I hg hm hv ?_ hn hdb)
 exact PyProof.Rows.callWith_type1 (thn (ha pos pins s σ H _ I h) fun us s1 h_0=>by obtain ⟨vs,H1,I1,r1,q1⟩:=h_0;exact hc pins s1 σ H1 vs us Q I1 r1 q1) he hpl
end
end L2
namespace HT
open PySem PyProof.Rows
section
open PySem.SeqAt
open PySem.AutoSeq1 (wpAny_loadPart')
open PySem.MeetsSeq PySem.MeetsSeq2 PySem.MeetsSeq3
end
section
variable {prog:Program} {w:World} {A:Around} {E:Value→Shared→Prop} {s:Shared}
theorem cat_tup {t b:Addr} {vs ws:List Value} {Q:Value→Shared→Prop} (ht:IsTup s.heap t vs.toArray) (hb:IsTup s.heap b ws.toArray) (hv:vs≠[])
  (h1:ws=[]→Q (.ref t) s) (h2:ws≠[]→Q (.ref s.heap.objs.size) { s with heap:=s.heap.push { cls:=.type "tuple",data:=.seq (vs++ws).toArray } })
  (hsz:vs.length + ws.length≤sizeLine):wpAny (model prog w) A (binaryOp .Add (.ref t) (.ref b)) Q E s:=by
 obtain ⟨⟨cls,dd,data,sl⟩,ho,hc,n,hd⟩:=id ht
 obtain ⟨⟨cls2,dd2,data2,sl2⟩,ho2,hc2,n2,hd2⟩:=id hb
 simp only at hc hd hc2 hd2
 subst hc hd hc2 hd2
 have e:vs.toArray++ws.toArray=(vs++ws).toArray:=by simp
 by_cases hw:ws=[]
 ·exact concat_meets ⟨_,ho,rfl⟩ ⟨_,ho2,rfl⟩ noFill_tuple_add seq_tuple_add PySem.F.slot_tuple_add PySem.F.entry_tuple_add (PySem.F.args_tuple_add_2 _ _)
   (tuple_addW1 t b vs.toArray ws.toArray n n2 dd dd2 sl sl2 (by simpa using hv) (by simp [hw])) ⟨ho,ho2,h1 hw⟩
 ·refine concat_meets ⟨_,ho,rfl⟩ ⟨_,ho2,rfl⟩ noFill_tuple_add seq_tuple_add PySem.F.slot_tuple_add PySem.F.entry_tuple_add (PySem.F.args_tuple_add_2 _ _)
   (tuple_addW2 t b vs.toArray ws.toArray n n2 dd dd2 sl sl2 (by simpa using hv) (by simpa using hw) (by rw [C7,C7];exact hsz)) ⟨ho,ho2,?_⟩
  rw [e]
  exact h2 hw
def sIx (n d:Nat):Option Int→Nat
 | none=>d
 | some v=>if v < 0 then (v + (n:Int)).toNat else min v.toNat n
theorem sIx_none (n d:Nat):sIx n d none=d:=rfl
theorem sIx_nat (n d k:Nat):sIx n d (some (k:Int))=min k n:=by
 show (if (k:Int) < 0 then ((k:Int) + (n:Int)).toNat else min (k:Int).toNat n)=min k n
 rw [if_neg (by omega),Int.toNat_natCast]
theorem BG (n d:Nat) (hd:d≤n) (o:Option Int):sIx n d o≤n:=by
 cases o with
 | none=>exact hd
 | some v =>
  show (if v < 0 then (v + (n:Int)).toNat else min v.toNat n)≤n
  by_cases hv:v < 0
  ·rw [if_pos hv];omega
  ·rw [if_neg hv];exact Nat.min_le_right _ _
theorem tj (v:Int) (n d:Nat):(if v < 0 then max (v + (n:Int)) 0 else min v (n:Int))=((sIx n d (some v):Nat):Int):=by
 show (if v < 0 then max (v + (n:Int)) 0 else min v (n:Int))=(((if v < 0 then (v + (n:Int)).toNat else min v.toNat n):Nat):Int)
 by_cases hv:v < 0
 ·simp only [if_pos hv];omega
 ·simp only [if_neg hv];omega
theorem qZ (lo hi:Option Int) (n:Nat):Builtin.Slice.sliceAdjust lo hi 1 (n:Int)=(((sIx n 0 lo:Nat):Int),((sIx n n hi:Nat):Int)):=by
 have h1:¬ ((1:Int) < 0):=by omega
 unfold Builtin.Slice.sliceAdjust
 simp only [h1,if_false]
 refine Prod.ext ?_ ?_
 ·cases lo with
  | none=>rfl
  | some v=>exact tj v n 0
 ·cases hi with
  | none=>rfl
  | some v=>exact tj v n n
theorem qH (i j:Nat):Builtin.Slice.slicePlaces (i:Int) (j:Int) 1=j - i:=by
 unfold Builtin.Slice.slicePlaces
 have h1:(1:Int) > 0:=by omega
 simp only [h1,if_true,Int.ediv_one]
 split<;>omega
theorem jL {v:Value} {o:Option Int} {Q:Option Int→Shared→Prop} (p:IsPart v o) (h:Q o s):wpAny (model prog w) A (Builtin.Slice.slicePartIndex v) Q E s:=by
 cases p with
 | none=>exact slicePart_none h
 | int i t=>exact slicePart_int h
theorem ia {sl:Addr} {vl vu:Value} {lo hi:Option Int} {n:Nat} {Q:Int×Int×Nat→Shared→Prop} (hs:s.heap.IsSliceOf sl vl vu .none) (pl:IsPart vl lo) (pu:IsPart vu hi)
  (h:Q (((sIx n 0 lo:Nat):Int),1,sIx n n hi - sIx n 0 lo) s):wpAny (model prog w) A (Builtin.Slice.sliceApplied (.ref sl) (pure (n:Int))) Q E s:=by
 obtain ⟨os,hos,hcs,hds⟩:=id hs
 unfold Builtin.Slice.sliceApplied Builtin.Slice.sliceFields
 refine wpAny_bind (wpAny_bind (wpAny_field hos hds (x:=vl) rfl (wpAny_bind (wpAny_field hos hds (x:=vu) rfl (wpAny_bind (wpAny_field hos hds (x:=.none) rfl (wpAny_pure ?_)))))))
 refine wpAny_bind (slicePart_none ?_)
 show wpAny _ _ (if ((1:Int) == 0)=true then _ else _) _ _ s
 rw [if_neg (by decide)]
 refine wpAny_bind (jL pl (wpAny_bind (jL pu (wpAny_bind (wpAny_pure ?_)))))
 show wpAny _ _ (match Builtin.Slice.sliceAdjust lo hi 1 (n:Int) with | (lo,hi)=>pure (lo,(1:Int),Builtin.Slice.slicePlaces lo hi 1)) _ _ s
 rw [qZ lo hi n]
 show wpAny _ _ (pure (((sIx n 0 lo:Nat):Int),(1:Int),Builtin.Slice.slicePlaces ((sIx n 0 lo:Nat):Int) ((sIx n n hi:Nat):Int) 1)) _ _ s
 rw [qH]
 exact wpAny_pure h
theorem vj (xs:Array Value) (i k:Nat):((List.range k).filterMap fun (m:Nat)=>xs[((i:Int) + (m:Int) * 1).toNat]?).toArray=((xs.toList.drop i).take k).toArray:=by
 have e:(fun (m:Nat)=>xs[((i:Int) + (m:Int) * 1).toNat]?)=fun m=>xs[i + m]?:=by
  funext m
  have:((i:Int) + (m:Int) * 1).toNat=i + m:=by omega
  rw [this]
 rw [e]
 have:=pick_run xs i k
 rw [List.filterMap_map] at this
 have e2:((fun x=>xs[x]?) ∘ fun x=>i + x)=fun m=>xs[i + m]?:=rfl
 rw [e2] at this
 rw [this]
theorem getItem_tuple_cut {t sl:Addr} {items:Array Value} {vl vu:Value} {lo hi:Option Int} {Q:Value→Shared→Prop} (ht:IsTup s.heap t items) (hs:s.heap.IsSliceOf sl vl vu .none) (pl:IsPart vl lo) (pu:IsPart vu hi)
  (hw:¬ (sIx items.size 0 lo=0∧sIx items.size items.size hi=items.size))
  (h:Q (.ref s.heap.objs.size) { s with heap:=s.heap.push { cls:=.type "tuple",data:=.seq ((items.toList.drop (sIx items.size 0 lo)).take (sIx items.size items.size hi - sIx items.size 0 lo)).toArray } })
  (hsz:items.size≤sizeLine):wpAny (model prog w) A (getItem (.ref t) (.ref sl)) Q E s:=by
 have htake:sizeOk (.seq ((items.toList.drop (sIx items.size 0 lo)).take (sIx items.size items.size hi - sIx items.size 0 lo)).toArray):=by
  show ((items.toList.drop (sIx items.size 0 lo)).take (sIx items.size items.size hi - sIx items.size 0 lo)).toArray.size≤sizeLine
  rw [C7,De,List.length_drop,Array.length_toList]
  omega
 have hj:sIx items.size items.size hi≤items.size:=BG _ _ (Nat.le_refl _) hi
 obtain ⟨os,hos,hcs,hds⟩:=id hs
 have hTs:s.TypeIs (.ref sl) "slice":=⟨os,hos,hcs⟩
 unfold getItem
 try with_reducible refine wpAny_holding ?_
 first | refine wpAny_bind (wpAny_pure ?_) | skip
 refine wpAny_bind (wpAny_sequenceKey ht.typeIs (by decide) ?_)
 refine wpAny_bind (wpAny_callSpecial?_slot (name:=Str.ofString "__getitem__") ht.typeIs PyProof.Rows.slot_tuple_getitem
  (wpAny_call_entry PyProof.Rows.slot_tuple_getitem ht.typeIs entry_tuple_getitem ?_ (args_tuple_getitem _ _)))
 show wpAny _ _ (Builtin.Tuple.tupleItemsOf (.ref t) >>= _) _ _ s
 refine wpAny_bind (tupleItemsOf_ ht ?_)
 refine wpAny_bind (wpAny_typeOf hTs ?_)
 rw [if_pos (by decide)]
 refine wpAny_bind (ia hs pl pu ?_)
 have hno:¬ ((((sIx items.size 0 lo:Nat):Int) == 0 && (1:Int) == 1 && (sIx items.size items.size hi - sIx items.size 0 lo) == items.size)=true):=by
  intro q
  rw [Bool.and_eq_true,Bool.and_eq_true] at q
  have q1:((sIx items.size 0 lo:Nat):Int)=0:=eq_of_beq q.1.1
  have q2:sIx items.size items.size hi - sIx items.size 0 lo=items.size:=eq_of_beq q.2
  exact hw ⟨by omega,by omega⟩
 show wpAny _ _ (if (((sIx items.size 0 lo:Nat):Int) == 0 && (1:Int) == 1 && (sIx items.size items.size hi - sIx items.size 0 lo) == items.size)=true then _ else _) _ _ s
 rw [if_neg hno,vj]
 first
  | exact wpAny_bind (m:=Builtin.Tuple.tupleExact _) (wpAny_newObj_type (wpAny_pure ⟨_,rfl,wpAny_pure h⟩) htake)
  | exact wpAny_bind (m:=Builtin.Tuple.tupleExact _) (wpAny_newObj_type (wpAny_bind (wpAny_pure (wpAny_pure ⟨_,rfl,wpAny_pure h⟩))) htake)
  | exact wpAny_bind (wpAny_bind (m:=Builtin.Tuple.tupleExact _) (wpAny_newObj_type (wpAny_pure (wpAny_pure ⟨_,rfl,wpAny_pure h⟩)) htake))
  | exact wpAny_bind (wpAny_bind (m:=Builtin.Tuple.tupleExact _) (wpAny_newObj_type (wpAny_pure ⟨_,rfl,wpAny_pure h⟩) htake))
end
end HT
namespace L2
open PySem PySem.Spec PyProof.Rows
abbrev TO:=St→Hp→(Option Int→Hp→Prop)→Prop
def PO (X:Cx) (e:Option Expr) (t:TO):Prop :=
 ∀ (pins:List (Addr×Obj)) (s:Shared) (σ:St) (H:Hp) (Q:Option Int→Hp→Prop),Inv X pins σ H s→t σ H Q →
  wpAny (model X.prog X.w) X.A (evalPart e X.env) (fun u s'=>∃ o H',Inv X pins σ H' s'∧IsPart u o∧Q o H') X.xe s
def xi:TO:=fun _ H Q=>Q none H
def BL (t:TE):TO:=fun σ H Q=>t σ H fun x H1=>∃ i,x=.int i∧Q (some i) H1
section
variable {X:Cx} {e:Expr} {te:TE} {lo hi:Option Expr} {tl th:TO} {pos p2:Pos}
theorem xA:PO X none xi:=by
 intro pins s σ H Q I h
 rw [evalPart_none]
 exact wpAny_pure ⟨none,H,I,.none,h⟩
theorem xG (h:PE X e te):PO X (some e) (BL te):=by
 intro pins s σ H Q I hw
 rw [evalPart_some]
 refine thn (h pins s σ H _ I hw) fun u s1 h_0=>?_
 obtain ⟨x,H1,I1,r1,q1⟩:=h_0
 obtain ⟨i,rfl,q⟩:=q1
 obtain ⟨t,rfl⟩:=r1
 exact⟨some i,H1,I1,.int i t,q⟩
def SlR (X:Cx) (r:V→Option Int→Option Int→Hp→VK→Prop):Prop :=
 ∀ (pins:List (Addr×Obj)) (s:Shared) (σ:St) (H:Hp) (x:V) (v vl vu:Value) (lo hi:Option Int) (sl:Addr) (Q:VK),Inv X pins σ H s→RelV x v→s.heap.IsSliceOf sl vl vu .none→IsPart vl lo→IsPart vu hi→r x lo hi H Q →
  ∃ T id,typeLookup (.type T) "__getitem__"=pure (some (.builtin id))∧s.TypeIs v T∧wpAny (model X.prog X.w) X.A (getItem v (.ref sl)) (EP X pins σ Q) X.xe s
theorem SlR.or {r r':V→Option Int→Option Int→Hp→VK→Prop} (h:SlR X r) (h':SlR X r'):SlR X (fun x lo hi H Q=>r x lo hi H Q∨r' x lo hi H Q):=by
 intro pins s σ H x v vl vu lo hi sl Q I rx hs pl pu q
 rcases q with q | q
 ·exact h pins s σ H x v vl vu lo hi sl Q I rx hs pl pu q
 ·exact h' pins s σ H x v vl vu lo hi sl Q I rx hs pl pu q
def tSl (r:V→Option Int→Option Int→Hp→VK→Prop) (te:TE) (tl th:TO):TE:=fun σ H Q=>te σ H fun x H1=>tl σ H1 fun l H2=>th σ H2 fun u H3=>r x l u H3 Q
theorem vq {r:V→Option Int→Option Int→Hp→VK→Prop} (hr:SlR X r) (he:PE X e te) (hl:PO X lo tl) (hu:PO X hi th):PE X (.Subscript e (.Slice lo hi none p2) pos) (tSl r te tl th):=by
 intro pins s σ H Q I h
 refine Subscript_ (thn (he pins s σ H _ I h) fun v s1 ⟨x,H1,I1,r1,q1⟩=>?_)
 refine wpAny_Slice (thn (hl pins s1 σ H1 _ I1 q1) fun vl s2 ⟨l,H2,I2,pl,q2⟩=>thn (hu pins s2 σ H2 _ I2 q2) fun vu s3 ⟨u,H3,I3,pu,q3⟩=>?_)
 rw [evalPart_none]
 refine wpAny_pure ?_
 have I4:Inv X pins σ H3 { s3 with heap:=s3.heap.push { cls:=.type "slice",data:=.fields #[vl,vu,.none] } }:=I3.kept (t':=s3.toks) fun b ob q=>CO _ q
 obtain ⟨T,id,hT,ht,hg⟩:=hr pins { s3 with heap:=s3.heap.push { cls:=.type "slice",data:=.fields #[vl,vu,.none] } } σ H3 x v vl vu l u s3.heap.objs.size Q I4 r1 (Heap.IsSliceOf.new ..) pl pu q3
 show wpAny (model X.prog X.w) X.A (subscriptTail e (.Slice lo hi none p2) v (.ref s3.heap.objs.size)) (EP X pins σ Q) X.xe { s3 with heap:=s3.heap.push { cls:=.type "slice",data:=.fields #[vl,vu,.none] } }
 exact tail_any (ops:=[.ref s3.heap.objs.size,v]) ht hT hg (by with_unfolding_all rfl)
def cutV (xs:List V) (lo hi:Option Int):List V:=(xs.drop (HT.sIx xs.length 0 lo)).take (HT.sIx xs.length xs.length hi - HT.sIx xs.length 0 lo)
theorem iM (xs:List V) (lo hi:Option Int):(cutV xs lo hi).length≤xs.length:=by
 unfold cutV
 rw [De,List.length_drop]
 omega
def rSlT (K:PySem.W.Frag):V→Option Int→Option Int→Hp→VK→Prop:=fun x lo hi H Q=>∃ a xs,x=.ref a∧SqT K H a xs ∧
 ¬ (HT.sIx xs.length 0 lo=0∧HT.sIx xs.length xs.length hi=xs.length)∧∀ p,H p=none→Q (.ref p) (upd H p (.tup (cutV xs lo hi)))
theorem BE:SlR X (rSlT X.K):=by
 intro pins s σ H x v vl vu lo hi sl Q I rx hs pl pu h
 obtain ⟨a,xs,rfl,hx,hw,q⟩:=h
 cases rx
 obtain ⟨its,r,ht,hz⟩:=I.tuple hx
 have hlen:its.toArray.size=xs.length:=by rw [C7];exact r.length.symm
 refine⟨"tuple",_,PyProof.Rows.slot_tuple_getitem.lookup,ht.typeIs,?_⟩
 refine HT.getItem_tuple_cut ht hs pl pu (by rw [hlen];exact hw) ?_ (by rw [hlen];exact hz)
 rw [hlen]
 refine⟨.ref s.heap.objs.size,_,I.laid (t':=s.toks) (o:=.tup (cutV xs lo hi)) (fun b ob q=>CO _ q) (Nat.le_refl _) ?_,rfl,q _ (I.hok.fresh (Nat.le_refl _))⟩
 exact⟨CN (iM xs lo hi) hz,_,(r.drop (HT.sIx xs.length 0 lo)).take (HT.sIx xs.length xs.length hi - HT.sIx xs.length 0 lo),IsTup.new _ _⟩
def B0 (K:PySem.W.Frag):R2:=fun x y H Q=>∃ a b xs ys,x=.ref a∧y=.ref b∧SqT K H a xs∧SqT K H b ys∧xs≠[]∧xs.length + ys.length≤sizeLine ∧
 (ys=[]→Q (.ref a) H)∧(ys≠[]→∀ p,H p=none→Q (.ref p) (upd H p (.tup (xs++ys))))
theorem Vals.nil_iff {xs:List V} {us:List Value} (r:Vals xs us):us=[]↔xs=[]:=by
 cases r with
 | nil=>simp
 | cons _ _=>simp
theorem wX:OpR X (binaryOp .Add) (B0 X.K):=by
 intro pins s σ H x y v u Q I rx ry h
 obtain ⟨a,b,xs,ys,rfl,rfl,ha,hb,hx,hz,q1,q2⟩:=h
 cases rx
 cases ry
 obtain ⟨its,r1,p1,_⟩:=I.tuple ha
 obtain ⟨its2,r2,p2,_⟩:=I.tuple hb
 refine HT.cat_tup p1 p2 (fun z=>hx (r1.nil_iff.mp z)) (fun z=>⟨.ref a,H,I,rfl,q1 (r2.nil_iff.mp z)⟩) (fun z=>?_) (by rw [← r1.length,← r2.length];exact hz)
 refine⟨.ref s.heap.objs.size,_,I.laid (t':=s.toks) (o:=.tup (xs++ys)) (fun b ob q=>CO _ q) (Nat.le_refl _) ?_,rfl,q2 (fun w=>z (r2.nil_iff.mpr w)) _ (I.hok.fresh (Nat.le_refl _))⟩
 exact⟨by rw [CW];exact hz,_,r1.append r2,IsTup.new _ _⟩
end
end L2
namespace L2
open PySem PySem.Spec PyProof.Rows
def ixN (n:Nat) (i:Int):Option Nat:=if 0≤i then (if i < n then some i.toNat else none) else if -(n:Int)≤i then some (i + n).toNat else none
def atI {α:Type} (xs:List α) (i:Int):Option α:=(ixN xs.length i).bind fun j=>xs[j]?
theorem xw {n:Nat} {i:Int} {j:Nat} (h:ixN n i=some j):seqIndex? i n=some j∧j < n∧-(n:Int)≤i∧i < n:=by
 unfold ixN at h
 by_cases h0:0≤i
 ·rw [if_pos h0] at h
  by_cases h1:i < n
  ·rw [if_pos h1] at h
   have e:i.toNat=j:=Option.some.inj h
   exact⟨by rw [seqIndex_of h0 h1,e],by omega,by omega,h1⟩
  ·rw [if_neg h1] at h;cases h
 ·rw [if_neg h0] at h
  by_cases h1:-(n:Int)≤i
  ·rw [if_pos h1] at h
   have e:(i + n).toNat=j:=Option.some.inj h
   exact⟨by rw [seqIndex_neg (by omega) h1,e],by omega,h1,by omega⟩
  ·rw [if_neg h1] at h;cases h
theorem mq {α:Type} {xs:List α} {i:Int} {v:α} (h:atI xs i=some v):∃ j,seqIndex? i xs.length=some j∧xs[j]?=some v∧j < xs.length∧-(xs.length:Int)≤i∧i < xs.length:=by
 unfold atI at h
 cases e:ixN xs.length i with
 | none=>rw [e] at h;cases h
 | some j =>
  rw [e] at h
  obtain ⟨h1,h2,h3,h4⟩:=xw e
  exact⟨j,h1,h,h2,h3,h4⟩
theorem vD {α:Type} (xs:List α) (v:α):atI (xs++[v]) (-1)=some v:=by
 have hl:(xs++[v]).length=xs.length + 1:=by simp
 have e:ixN (xs++[v]).length (-1)=some xs.length:=by
  unfold ixN
  rw [hl,if_neg (by decide),if_pos (by omega)]
  congr 1
  omega
 unfold atI
 rw [e]
 show (xs++[v])[xs.length]?=some v
 simp
def ug (b:Expr):Prop:=∀ o i,subscripted b false o i=operate [o,i] (getItem o i)
def IxR (X:Cx) (r:R2):Prop :=
 ∀ (value slice:Expr) (pins:List (Addr×Obj)) (s:Shared) (σ:St) (H:Hp) (x y:V) (v u:Value) (Q:VK),Inv X pins σ H s→RelV x v→RelV y u→r x y H Q →
  subscripted slice false v u=operate [v,u] (getItem v u)→wpAny (model X.prog X.w) X.A (subscriptTail value slice v u) (EP X pins σ Q) X.xe s
def MtR (X:Cx) (id:String) (r:V→List V→Hp→VK→Prop):Prop :=
 ∀ (pins:List (Addr×Obj)) (s:Shared) (σ:St) (H:Hp) (x:V) (xs:List V) (v:Value) (us:List Value) (Q:VK),Inv X pins σ H s→RelV x v→Vals xs us→r x xs H Q →
  wpAny (model X.prog X.w) X.A (call (.builtin id) (v :: us)) (EP X pins σ Q) X.xe s
section
variable {X:Cx} {a b:Expr} {ta tb:TE} {pos:Pos}
theorem IxR.or {r r':R2} (h:IxR X r) (h':IxR X r'):IxR X (fun x y H Q=>r x y H Q∨r' x y H Q):=by
 intro value slice pins s σ H x y v u Q I rx ry q hs
 rcases q with q | q
 ·exact h value slice pins s σ H x y v u Q I rx ry q hs
 ·exact h' value slice pins s σ H x y v u Q I rx ry q hs
theorem MtR.or {id:String} {r r':V→List V→Hp→VK→Prop} (h:MtR X id r) (h':MtR X id r'):MtR X id (fun x xs H Q=>r x xs H Q∨r' x xs H Q):=by
 intro pins s σ H x xs v us Q I rx rs q
 rcases q with q | q
 ·exact h pins s σ H x xs v us Q I rx rs q
 ·exact h' pins s σ H x xs v us Q I rx rs q
theorem CF {r:R2} (hr:IxR X r) (ha:PE X a ta) (hb:PE X b tb) (hs:ug b):PE X (.Subscript a b pos) (tOp r ta tb):=by
 intro pins s σ H Q I h
 exact Subscript_ (binT ha hb I h fun v u s2 x y H2 I2 rx ry q=>hr a b pins s2 σ H2 x y v u Q I2 rx ry q (hs _ _))
def rIxL (K:PySem.W.Frag):R2:=fun x y H Q=>∃ p xs i v,x=.ref p∧y=.int i∧SqL K H p xs∧atI xs i=some v∧Q v H
def rIxT (K:PySem.W.Frag):R2:=fun x y H Q=>∃ p xs i v,x=.ref p∧y=.int i∧SqT K H p xs∧atI xs i=some v∧Q v H
def rIxS:R2:=fun x y H Q=>∃ z i c,x=.str z∧y=.int i∧z.length≤sizeLine∧atI z.cps.toList i=some c∧Q (.str ⟨#[c]⟩) H
theorem xI:IxR X (rIxL X.K):=by
 intro value slice pins s σ H x y v u Q I rx ry h hs
 obtain ⟨p,xs,i,z,rfl,rfl,hq,he,q⟩:=h
 cases rx
 obtain ⟨t,rfl⟩:=ry
 obtain ⟨its,r,pl,hz⟩:=I.list hq
 obtain ⟨j,h1,h2,h3,h4,h5⟩:=mq he
 obtain ⟨w,ew,rw'⟩:=r.get h2
 have hl:=r.length
 have hn:=o8
 have fin:EP X pins σ Q w s:=⟨z,H,I,rw',q⟩
 by_cases h0:0≤i
 ·have hj:i.toNat=j:=by
   rw [seqIndex_of h0 h5] at h1
   exact Option.some.inj h1
  exact item_listR pl.isList h0 (by omega) (by rw [hj];simpa using ew) fin hs
 ·have hj:(i + (its.toArray.size:Int)).toNat=j:=by
   rw [seqIndex_neg (by omega) h4] at h1
   rw [C7,← hl]
   exact Option.some.inj h1
  exact subscriptTail_builtinR (x:=w) pl.isList.typeIs slot_list_getitem.lookup
   (wpAny_getItem_list_neg (Q:=fun r s'=>r=w∧EP X pins σ Q r s') pl.isList (by omega) (by rw [C7]<;>omega) (by omega) (by rw [hj];simpa using ew) ⟨rfl,fin⟩) hs
theorem Bl:IxR X (rIxT X.K):=by
 intro value slice pins s σ H x y v u Q I rx ry h hs
 obtain ⟨p,xs,i,z,rfl,rfl,hq,he,q⟩:=h
 cases rx
 obtain ⟨t,rfl⟩:=ry
 obtain ⟨its,r,pl,hz⟩:=I.tuple hq
 obtain ⟨j,h1,h2,h3,h4,h5⟩:=mq he
 obtain ⟨w,ew,rw'⟩:=r.get h2
 have hl:=r.length
 have hn:=o8
 have fin:EP X pins σ Q w s:=⟨z,H,I,rw',q⟩
 exact subscriptTail_builtinR (x:=w) pl.typeIs slot_tuple_getitem.lookup
  (getItem_tuple (j:=j) (Q:=fun r s'=>r=w∧EP X pins σ Q r s') pl (by omega) (by omega) (by rw [C7,← hl];exact h1) (by simpa using ew) ⟨rfl,fin⟩) hs
theorem Av:IxR X rIxS:=by
 intro value slice pins s σ H x y v u Q I rx ry h hs
 obtain ⟨z,i,c,rfl,rfl,hz,he,q⟩:=h
 obtain ⟨t,rfl⟩:=rx
 obtain ⟨t',rfl⟩:=ry
 obtain ⟨j,h1,h2,h3,h4,h5⟩:=mq he
 have hl:z.cps.toList.length=z.length:=by simp [Str.length]
 rw [hl] at h1 h4 h5
 have hn:=o8
 exact tail_any (typeIs_str s z t) slot_str_getitem.lookup (getItem_str (c:=c) (by
  have e1:decide (i < -(2 ^ 63:Int))=false:=decide_eq_false (by omega)
  have e2:decide (i ≥ 2 ^ 63)=false:=decide_eq_false (by omega)
  rw [e1,e2,Bool.or_false]) (by rw [h1];simpa using h2) ⟨.str ⟨#[c]⟩,H,I.tok _,⟨_,rfl⟩,q⟩) hs
def rIx (K:PySem.W.Frag):R2:=fun x y H Q=>rIxL K x y H Q∨rIxT K x y H Q∨rIxS x y H Q
theorem zB:IxR X (rIx X.K):=xI.or (Bl.or Av)
theorem Inv.lst {pins:List (Addr×Obj)} {σ:St} {H:Hp} {s:Shared} {p:Addr} {xs:List V} (I:Inv X pins σ H s) (h:H p=some (.lst xs)) :
  ∃ (its:List Value) (n:Nat),Vals xs its∧s.heap.get? p=some { cls:=.type "list",data:=.seq its.toArray n }∧xs.length≤sizeLine:=by
 obtain ⟨z,its,n,r,e⟩:=I.hok p _ h
 exact⟨its,n,r,e,z⟩
theorem mj (lo hi:Option Int) (n:Nat):(sliceBounds lo hi none n).1=((HT.sIx n 0 lo:Nat):Int)∧(sliceBounds lo hi none n).2.1=((HT.sIx n n hi:Nat):Int)∧(sliceBounds lo hi none n).2.2=1:=by
 refine⟨?_,?_,rfl⟩
 ·cases lo with
  | none=>simp [sliceBounds,HT.sIx]
  | some i =>
   simp only [sliceBounds,HT.sIx,Option.getD_none,show (1:Int) > 0 by decide,if_true]
   by_cases h:i < 0
   ·simp only [h,if_true]<;>omega
   ·simp only [h,if_false]<;>omega
 ·cases hi with
  | none=>simp [sliceBounds,HT.sIx]
  | some i =>
   simp only [sliceBounds,HT.sIx,Option.getD_none,show (1:Int) > 0 by decide,if_true]
   by_cases h:i < 0
   ·simp only [h,if_true]<;>omega
   ·simp only [h,if_false]<;>omega
theorem kI (its:List Value) (lo hi:Option Int):slicePick its.toArray lo hi none=((its.drop (HT.sIx its.length 0 lo)).take (HT.sIx its.length its.length hi - HT.sIx its.length 0 lo)).toArray:=by
 obtain ⟨h1,h2,h3⟩:=mj lo hi its.toArray.size
 unfold slicePick
 rw [h1,h2,h3]
 simp only [sliceRange_one,pick_run,C7]<;>rfl
def rSlL (K:PySem.W.Frag):V→Option Int→Option Int→Hp→VK→Prop:=fun x lo hi H Q=>∃ a xs,x=.ref a∧SqL K H a xs∧∀ p,H p=none→Q (.ref p) (upd H p (.lst (cutV xs lo hi)))
theorem xV:SlR X (rSlL X.K):=by
 intro pins s σ H x v vl vu lo hi sl Q I rx hs pl pu h
 obtain ⟨a,xs,rfl,hx,q⟩:=h
 cases rx
 obtain ⟨its,r,ht,hz⟩:=I.list hx
 have hlen:=r.length
 refine⟨"list",_,slot_list_getitem.lookup,ht.isList.typeIs,?_⟩
 refine wpAny_getItem_list_slice ht.isList hs pl pu .none (by simp) ?_ (by rw [C7]<;>omega)
 rw [kI,← hlen]
 refine⟨.ref s.heap.objs.size,_,I.laid (t':=s.toks) (o:=.lst (cutV xs lo hi)) (fun b ob q=>CO _ q) (Nat.le_refl _) ?_,rfl,q _ (I.hok.fresh (Nat.le_refl _))⟩
 exact⟨CN (iM xs lo hi) hz,_,0,(r.drop (HT.sIx xs.length 0 lo)).take (HT.sIx xs.length xs.length hi - HT.sIx xs.length 0 lo),Da _ rfl⟩
def zI:V→Bool
 | .non=>true
 | .bl _=>true
 | .int _=>true
 | .str _=>true
 | _=>false
def eqV:V→V→Bool
 | .non,.non=>true
 | .bl a,.bl b=>a == b
 | .bl a,.int b=>(if a then 1 else 0) == b
 | .int a,.bl b=>a == (if b then 1 else 0)
 | .int a,.int b=>a == b
 | .str a,.str b=>a == b
 | _,_=>false
theorem pV {A:Around} {s:Shared} {y x:V} {u v:Value} (ry:RelV y u) (rx:RelV x v) (fy:zI y=true) (fx:zI x=true):SeqAt.EqAt A s u v (eqV y x):=by
 cases y with
 | non =>
  cases ry
  cases x with
  | non=>cases rx;exact SeqAt.EqAt.same _
  | bl b=>cases rx;exact SeqAt.EqAt.none_bool b
  | int b=>obtain ⟨t,rfl⟩:=rx;exact SeqAt.EqAt.none_int b t
  | str b=>obtain ⟨t,rfl⟩:=rx;exact SeqAt.EqAt.none_str b t
  | _=>exact absurd (show false=true from fx) Bool.false_ne_true
 | bl a =>
  cases ry
  cases x with
  | non=>cases rx;exact SeqAt.EqAt.bool_none a
  | bl b=>cases rx;exact SeqAt.EqAt.bool_bool a b
  | int b=>obtain ⟨t,rfl⟩:=rx;exact SeqAt.EqAt.bool_int a b t
  | str b=>obtain ⟨t,rfl⟩:=rx;exact SeqAt.EqAt.bool_str a b t
  | _=>exact absurd (show false=true from fx) Bool.false_ne_true
 | int a =>
  obtain ⟨t',rfl⟩:=ry
  cases x with
  | non=>cases rx;exact SeqAt.EqAt.int_none a t'
  | bl b=>cases rx;exact SeqAt.EqAt.int_bool a t' b
  | int b=>obtain ⟨t,rfl⟩:=rx;exact SeqAt.EqAt.int_int a t' b t
  | str b=>obtain ⟨t,rfl⟩:=rx;exact SeqAt.EqAt.int_str a t' b t
  | _=>exact absurd (show false=true from fx) Bool.false_ne_true
 | str a =>
  obtain ⟨t',rfl⟩:=ry
  cases x with
  | non=>cases rx;exact SeqAt.EqAt.str_none a t'
  | bl b=>cases rx;exact SeqAt.EqAt.str_bool a t' b
  | int b=>obtain ⟨t,rfl⟩:=rx;exact SeqAt.EqAt.str_int a t' b t
  | str b=>obtain ⟨t,rfl⟩:=rx;exact SeqAt.EqAt.str_str a t' b t
  | _=>exact absurd (show false=true from fx) Bool.false_ne_true
 | _=>exact absurd (show false=true from fy) Bool.false_ne_true
theorem gT:cj X (.builtin "len") (fun xs H Q=>∃ p ys,xs=[.ref p]∧(SqL X.K H p ys∨SqT X.K H p ys)∧Q (.int ys.length) H):=by
 intro pins s σ H xs us Q I r h
 obtain ⟨p,ys,rfl,hq,q⟩:=h
 obtain ⟨u,rfl,rx⟩:=gw r
 cases rx
 have hn:=o8
 rcases hq with hq | hq
 ·obtain ⟨its,r',pl,hz⟩:=I.list hq
  have hlen:=r'.length
  exact Calls.call_len_list pl.isList (by simp only [C7]<;>omega) ⟨.int ys.length,H,I.tok _,⟨s.toks + 1,by rw [C7,hlen]⟩,q⟩
 ·obtain ⟨its,r',pl,hz⟩:=I.tuple hq
  have hlen:=r'.length
  exact len_tuple pl (by simp only [C7]<;>omega) ⟨.int ys.length,H,I.tok _,⟨s.toks + 1,by rw [C7,hlen]⟩,q⟩
theorem cj.or {f:Value} {r r':List V→Hp→VK→Prop} (h:cj X f r) (h':cj X f r'):cj X f (fun xs H Q=>r xs H Q∨r' xs H Q):=by
 intro pins s σ H xs us Q I rs q
 rcases q with q | q
 ·exact h pins s σ H xs us Q I rs q
 ·exact h' pins s σ H xs us Q I rs q
theorem gl:cj X (.type "tuple") (fun xs H Q=>∃ p ys,xs=[.ref p]∧((SqL X.K H p ys∧∀ l,H l=none→Q (.ref l) (upd H l (.tup ys)))∨(SqT X.K H p ys∧Q (.ref p) H))):=by
 intro pins s σ H xs us Q I r h
 obtain ⟨p,ys,rfl,h⟩:=h
 obtain ⟨u,rfl,rx⟩:=gw r
 cases rx
 rcases h with ⟨hq,q⟩ | ⟨hq,q⟩
 ·obtain ⟨its,r',pl,hz⟩:=I.list hq
  have hlen:=r'.length
  refine call_tuple_list pl.isList (fun h' kp=>?_) (by simp only [C7]<;>omega)
  have I1:Inv X pins σ H { s with heap:=h' }:=I.kept (t':=s.toks) kp
  have I2:Inv X pins σ (upd H h'.objs.size (.tup ys)) { s with heap:=h'.push { cls:=.type "tuple",data:=.seq its.toArray } } :=
   I1.laid (t':=s.toks) (fun b o e=>CO _ e) (Nat.le_refl _) (show cc X.prog X.w _ _ _ (.tup ys) from ⟨hz,its,r',IsTup.new _ _⟩)
  exact⟨.ref h'.objs.size,_,I2,rfl,q _ (I1.hok.fresh (Nat.le_refl _))⟩
 ·obtain ⟨its,r',pl,hz⟩:=I.tuple hq
  exact call_tuple_same pl ⟨.ref p,H,I,rfl,q⟩
def tyV (K:PySem.W.Frag) (T:String) (x:V) (H:Hp):Prop:=match x with
 | .str _=>T="str"
 | .int _=>T="int"
 | .ref p=>(T="list"∧∃ xs,SqL K H p xs)∨(T="tuple"∧∃ o,K.lookup p=some o∧o.cls=.type "tuple"∧o.dict=none) ∨
   (T="dict"∧((∃ kvs,H p=some (.dK kvs))∨∃ kvs,H p=some (.dT kvs)))∨(T="set"∧∃ S n,H p=some (.set S n))
 | _=>False
theorem A6 {pins:List (Addr×Obj)} {σ:St} {H:Hp} {s:Shared} {T:String} {x:V} {v:Value} (I:Inv X pins σ H s) (r:RelV x v) (ty:tyV X.K T x H) :
  s.TypeIs v T∧∀ a,v=.ref a→∃ ob,s.heap.get? a=some ob∧ob.dict=none:=by
 cases x with
 | str z =>
  obtain ⟨t,rfl⟩:=r
  cases (show T="str" from ty)
  exact⟨typeIs_str s z t,fun _ e=>nomatch e⟩
 | int i =>
  obtain ⟨t,rfl⟩:=r
  cases (show T="int" from ty)
  exact⟨typeIs_int s i t,fun _ e=>nomatch e⟩
 | ref p =>
  cases r
  rcases ty with ⟨rfl,xs,hq⟩ | ⟨rfl,o,hk,hc,hd⟩ | ⟨rfl,hk⟩ | ⟨rfl,S,n,hk⟩
  ·obtain ⟨its,_,pl,_⟩:=I.list hq
   refine⟨pl.isList.typeIs,fun a e=>?_⟩
   cases e
   obtain ⟨o,n,e,c,hd,_⟩:=pl
   exact⟨o,e,hd⟩
  ·refine⟨⟨o,I.kIn p o hk,hc⟩,fun a e=>?_⟩
   cases e
   exact⟨o,I.kIn _ o hk,hd⟩
  ·have z:∃ o,s.heap.get? p=some o∧o.ExactDict:=by
    rcases hk with ⟨kvs,hk⟩ | ⟨kvs,hk⟩
    ·obtain ⟨_,_,_,_,o,_,_,e,ex,_⟩:=I.hok p _ hk
     exact⟨o,e,ex⟩
    ·obtain ⟨_,_,_,_,o,_,_,e,ex,_⟩:=I.hok p _ hk
     exact⟨o,e,ex⟩
   obtain ⟨o,e,ex⟩:=z
   refine⟨⟨o,e,ex.1⟩,fun a e2=>?_⟩
   cases e2
   exact⟨o,e,ex.2.1⟩
  ·obtain ⟨o,_,_,_,e,ex,_⟩:=I.hok p _ hk
   refine⟨⟨o,e,ex.1⟩,fun a e2=>?_⟩
   cases e2
   exact⟨o,e,ex.2.1⟩
 | _=>exact False.elim ty
def tBM (K:PySem.W.Frag) (T:String) (r:V→List V→Hp→VK→Prop) (to:TE) (t:TA):TE:=fun σ H Q=>to σ H fun x H1=>tyV K T x H1∧t σ H1 fun xs H2=>r x xs H2 Q
variable {o e:Expr} {es:List Expr} {to:TE} {t:TA} {name:Str} {apos cpos:Pos} {T id:String} {r:V→List V→Hp→VK→Prop}
theorem By (pa:PlainAttrs T) (slot:Slot T name id) (hty:typeOf (.builtin id)=pure (.type "method_descriptor")) (hm:MtR X id r) (ho:PE X o to) (ha:PA X (e :: es) t)
    (hbase:attributeBase o name X.env (eval o X.env)=eval o X.env:=by rfl)
    (hfew:((backTo cpos (starEach (e :: es) X.env)).all (fun x=>!x.1) && (backToKw cpos (keywordEach [] X.env)).all (fun x=>x.1.isSome)
      && decide ((e :: es).length + ([]:List Keyword).length + (if ([]:List Keyword).isEmpty then 0 else 1) < 30))=true:=by rfl)
    (hline:(apos.endLine == cpos.line)=true:=by rfl) (hs:starEach (e :: es) X.env=(false,eval e X.env) :: starEach es X.env:=by rfl) (hplain:(backTo cpos (starEach es X.env)).any (·.1)=false:=by rfl) :
    PE X (.Call (.Attribute o name apos) (e :: es) [] cpos) (tBM X.K T r to t):=by
  intro pins s σ H Q I h
  refine wpAny_Call_method_late hbase hfew hline rfl (thn (ho pins s σ H _ I h) fun v s1 ⟨x,H1,I1,r1,ty,q1⟩=>?_)
  obtain ⟨h1,h2⟩:=A6 I1 r1 ty
  refine⟨T,id,pa,slot,hty,h1,h2,?_⟩
  have hA:=ha cpos pins s1 σ H1 _ I1 q1
  rw [hs] at hA ⊢
  refine Calls.callWith_builtin (by show (false || (backTo cpos (starEach es X.env)).any (·.1))=false;rw [hplain]<;>rfl) (Calls.evalArgs_plain ?_)
  exact thn hA fun us s2 h_0=>by obtain ⟨vs,H2,I2,r2,q2⟩:=h_0;exact hm pins s2 σ H2 x vs v us Q I2 r1 r2 q2
end
end L2
namespace L2
open PySem PySem.Spec PyProof.Rows
def MtM (X:Cx) (id:String) (r:V→List V→Hp→VK→Prop):Prop :=
 ∀ (pins:List (Addr×Obj)) (s:Shared) (σ:St) (H:Hp) (x:V) (xs:List V) (v:Value) (us:List Value) (Q:VK),Inv X pins σ H s→RelV x v→Vals xs us→r x xs H Q →
  wpAny (model X.prog X.w) X.A (call (.builtin id) (v :: us)) (EP X pins σ Q) X.xe s
theorem Vals.one:∀ {x:V} {us:List Value},Vals [x] us→∃ u,us=[u]∧RelV x u
 | _,_,.cons r .nil=>⟨_,rfl,r⟩
theorem Vals.two:∀ {x y:V} {us:List Value},Vals [x,y] us→∃ u v,us=[u,v]∧RelV x u∧RelV y v
 | _,_,_,.cons r (.cons q .nil)=>⟨_,_,rfl,r,q⟩
theorem Vals.reverse {xs:List V} {us:List Value} (h:Vals xs us):Vals xs.reverse us.reverse:=by
 induction h with
 | nil=>exact .nil
 | cons r t ih=>rw [List.reverse_cons,List.reverse_cons];exact Vals.append ih (.cons r .nil)
section
variable {X:Cx} {pins:List (Addr×Obj)} {σ:St} {H:Hp} {s:Shared} {l b:Addr} {xs ys zs:List V}
theorem Inv.lset {its its':List Value} {n:Nat} {f:Array Value→Array Value} {t':Nat} (I:Inv X pins σ H s) (hH:H l=some (.lst xs))
  (e:s.heap.get? l=some { cls:=.type "list",data:=.seq its.toArray n }) (hf:f its.toArray=its'.toArray) (hv:Vals ys its') (hz:ys.length≤sizeLine) :
  Inv X pins σ (upd H l (.lst ys)) { s with heap:=s.heap.update l (Obj.mapSeq f),toks:=t' }:=by
 have q:=PySem.IsL.update e f
 rw [hf] at q
 refine I.write (x:=l) (e:=l) (by rw [hH];exact trivial) (.inl rfl) (fun b' u hb hu=>(Heap.get?_update_other s.heap (Obj.mapSeq f) (Ne.symm hb)).trans hu) ⟨_,q⟩ ?_
 exact⟨hz,its',_,hv,q⟩
theorem Inv.lnew {its:List Value} {t':Nat} (I:Inv X pins σ H s) (hv:Vals ys its) (hz:ys.length≤sizeLine) :
  Inv X pins σ (upd H s.heap.objs.size (.lst ys)) { s with heap:=s.heap.push { cls:=.type "list",data:=.seq its.toArray },toks:=t' } :=
 I.laid (fun _ _ q=>CO _ q) (Nat.le_refl _) ⟨hz,its,0,hv,Da _ rfl⟩
theorem Inv.fresh (I:Inv X pins σ H s):H s.heap.objs.size=none:=I.hok.fresh (Nat.le_refl _)
theorem Inv.lstM (I:Inv X pins σ H s) (hH:H l=some (.lst xs)):xs.length≤sizeLine∧∃ (its:List Value) (n:Nat),Vals xs its∧xs.length=its.length∧s.heap.get? l=some { cls:=.type "list",data:=.seq its.toArray n }:=by
 obtain ⟨z,its,n,r,e⟩:=I.hok l _ hH
 exact⟨z,its,n,r,r.length,e⟩
theorem uj {n:Nat} (h:n≤sizeLine):Builtin.List.listTooLong n=false:=by
 unfold Builtin.List.listTooLong
 exact decide_eq_false (by omega)
end
section
variable {X:Cx}
def xN:V→List V→Hp→VK→Prop:=fun x vs H Q=>∃ l xs y,x=.ref l∧vs=[y]∧H l=some (.lst xs)∧xs.length < sizeLine∧Q .non (upd H l (.lst (xs++[y])))
theorem mh:MtM X "list.append" xN:=by
 intro pins s σ H x vs v us Q I rx rv h
 obtain ⟨l,xs,y,rfl,rfl,hH,hz,q⟩:=h
 cases rx
 obtain ⟨u,rfl,ru⟩:=rv.one
 obtain ⟨z,its,n,r,hl,e⟩:=I.lstM hH
 refine call_meets F.slot_list_append ⟨_,e,rfl⟩ F.entry_list_append (F.args_list_append_2 _ _) (PySem.list_append l its.toArray n u (by rw [C7];omega)) ⟨e,?_⟩
 refine⟨.non,_,I.lset (its':=its++[u]) hH e (by simp) (r.append (.cons ru .nil)) ?_,rfl,q⟩
 rw [CW,List.length_singleton]
 omega
def yu:V→List V→Hp→VK→Prop:=fun x vs H Q=>∃ l b xs zs,x=.ref l∧vs=[.ref b]∧H l=some (.lst xs)∧H b=some (.lst zs)∧xs.length + zs.length≤sizeLine∧Q .non (upd H l (.lst (xs++zs)))
theorem mt_extend:MtM X "list.extend" yu:=by
 intro pins s σ H x vs v us Q I rx rv h
 obtain ⟨l,b,xs,zs,rfl,rfl,hH,hB,hz,q⟩:=h
 cases rx
 obtain ⟨u,rfl,ru⟩:=rv.one
 cases ru
 obtain ⟨z,its,n,r,hl,e⟩:=I.lstM hH
 obtain ⟨z2,its2,n2,r2,hl2,e2⟩:=I.lstM hB
 have hsz:its.toArray.size + its2.toArray.size≤sizeLine:=by rw [C7,C7];omega
 have hlong:¬ (!its.toArray.isEmpty && Builtin.List.listTooLong (its.toArray.size + its2.toArray.size))=true:=by
  rw [uj hsz,Bool.and_false]
  exact Bool.false_ne_true
 refine call_meets F.slot_list_extend ⟨_,e,rfl⟩ F.entry_list_extend (F.args_list_extend_2 _ _)
  (AutoSeq1.list_extend_list_list_0 l its.toArray n b its2.toArray n2 hlong (by rw [C7];omega) (by omega)) ⟨e,e2,?_⟩
 refine⟨.non,_,I.lset (its':=its++its2) hH e (by simp) (r.append r2) ?_,rfl,q⟩
 rw [CW]
 omega
def rCat:R2:=fun x y H Q=>∃ l b xs zs,x=.ref l∧y=.ref b∧H l=some (.lst xs)∧H b=some (.lst zs)∧xs.length + zs.length≤sizeLine∧∀ p,H p=none→Q (.ref p) (upd H p (.lst (xs++zs)))
theorem AE:OpR X (binaryOp .Add) rCat:=by
 intro pins s σ H x y v u Q I rx ry h
 obtain ⟨l,b,xs,zs,rfl,rfl,hH,hB,hz,q⟩:=h
 cases rx
 cases ry
 obtain ⟨z,its,n,r,hl,e⟩:=I.lstM hH
 obtain ⟨z2,its2,n2,r2,hl2,e2⟩:=I.lstM hB
 refine PySem.P.add_list e e2 ?_ (by rw [C7,C7];omega)
 have ea:its.toArray++its2.toArray=(its++its2).toArray:=by simp
 rw [ea]
 exact⟨.ref _,_,I.lnew (t':=s.toks) (r.append r2) (by rw [CW];omega),rfl,q _ I.fresh⟩
end
section
variable {prog:Program} {w:World} {A:Around} {E:Value→Shared→Prop} {s:Shared}
set_option maxRecDepth 100000 in
end
section
variable {X:Cx}
end
end L2
namespace L2
open PySem PySem.Spec PyProof.Rows
section
variable {κ:Type} [DecidableEq κ]
def valV (kvs:List (κ×V)) (k:κ):Option V:=(kvs.find? fun kv=>decide (kv.1=k)).map (·.2)
def putK (kvs:List (κ×V)) (k:κ) (v:V):List (κ×V) :=
 if (kvs.any fun kv=>decide (kv.1=k))=true then kvs.map (fun kv=>if kv.1=k then (kv.1,v) else kv) else kvs++[(k,v)]
def zH (kvs:List (κ×V)) (k:κ):List (κ×V):=kvs.filter fun kv=>decide (kv.1≠k)
theorem iu {p:κ×V} {r:List (κ×V)} {k:κ} (e:p.1=k):valV (p :: r) k=some p.2:=by simp [valV,List.find?_cons,e]
theorem iq {p:κ×V} {r:List (κ×V)} {k:κ} (e:¬ p.1=k):valV (p :: r) k=valV r k:=by simp [valV,List.find?_cons,e]
theorem oT (k:κ):∀ kvs:List (κ×V),(kvs.any fun kv=>decide (kv.1=k))=(valV kvs k).isSome
 | []=>rfl
 | p :: r=>by
  rw [List.any_cons]
  by_cases e:p.1=k
  ·simp only [iu e,decide_eq_true e,Bool.true_or,Option.isSome_some]
  ·rw [iq e,decide_eq_false e,Bool.false_or];exact oT k r
theorem fC (kvs:List (κ×V)) (k:κ) (v:V):(putK kvs k v).length≤kvs.length + 1:=by
 unfold putK
 split
 ·rw [CK];omega
 ·rw [CW,CZ,List.length_nil];omega
theorem RelO.isSome_eq {o:Option V} {u:Option Value} (r:RelO o u):o.isSome=u.isSome:=by
 cases o with
 | none=>cases u with
  | none=>rfl
  | some _=>exact (show False from r).elim
 | some _=>cases u with
  | none=>exact (show False from r).elim
  | some _=>rfl
theorem RelO.getD {o:Option V} {u:Option Value} {d:V} {d':Value} (r:RelO o u) (rd:RelV d d'):RelV (o.getD d) (u.getD d'):=by
 cases o with
 | none=>cases u with
  | none=>exact rd
  | some _=>exact (show False from r).elim
 | some _=>cases u with
  | none=>exact (show False from r).elim
  | some _=>exact r
theorem KV.val {kvs:List (κ×V)} {vs:List (κ×Value)} (r:KV kvs vs) (k:κ):RelO (valV kvs k) (valueAt vs k):=by
 unfold KV at r
 induction r with
 | nil=>exact True.intro
 | @cons p q ps qs h t ih =>
  obtain ⟨h1,h2⟩:=h
  by_cases e:p.1=k
  ·have e':q.1=k:=h1.symm.trans e
   have b:valueAt (q :: qs) k=some q.2:=by simp [valueAt,List.find?_cons,e']
   rw [iu e,b];exact h2
  ·have e':¬ q.1=k:=fun z=>e (h1.trans z)
   have b:valueAt (q :: qs) k=valueAt qs k:=by simp [valueAt,List.find?_cons,e']
   rw [iq e,b];exact ih
theorem KV.any {kvs:List (κ×V)} {vs:List (κ×Value)} (r:KV kvs vs) (k:κ):(kvs.any fun kv=>decide (kv.1=k))=vs.any fun kv=>decide (kv.1=k):=by
 unfold KV at r
 induction r with
 | nil=>rfl
 | cons h t ih=>rw [List.any_cons,List.any_cons,ih,h.1]
theorem KV.repl {kvs:List (κ×V)} {vs:List (κ×Value)} (r:KV kvs vs) (k:κ) {y:V} {u:Value} (ry:RelV y u) :
  KV (kvs.map fun kv=>if kv.1=k then (kv.1,y) else kv) (vs.map fun kv=>if kv.1=k then (kv.1,u) else kv):=by
 unfold KV at r ⊢
 induction r with
 | nil=>exact .nil
 | @cons p q ps qs h t ih =>
  rw [List.map_cons,List.map_cons]
  refine .cons ?_ ih
  obtain ⟨h1,h2⟩:=h
  by_cases e:p.1=k
  ·rw [if_pos e,if_pos (h1.symm.trans e)];exact⟨h1,ry⟩
  ·rw [if_neg e,if_neg (fun z=>e (h1.trans z))];exact⟨h1,h2⟩
theorem KV.put {kvs:List (κ×V)} {vs:List (κ×Value)} (r:KV kvs vs) (k:κ) {y:V} {u:Value} (ry:RelV y u):KV (putK kvs k y) (stored vs k u):=by
 unfold putK stored
 rw [r.any k]
 by_cases e:(vs.any fun kv=>decide (kv.1=k))=true
 ·rw [if_pos e,if_pos e];exact r.repl k ry
 ·rw [if_neg e,if_neg e];exact Paired.snoc r ⟨rfl,ry⟩
theorem KV.drop {kvs:List (κ×V)} {vs:List (κ×Value)} (r:KV kvs vs) (k:κ):KV (zH kvs k) (without vs k):=by
 unfold KV at r ⊢
 unfold zH without
 induction r with
 | nil=>exact .nil
 | @cons p q ps qs h t ih =>
  obtain ⟨h1,h2⟩:=h
  rw [List.filter_cons,List.filter_cons]
  by_cases e:p.1=k
  ·have a:¬ decide (p.1≠k)=true:=by simp [e]
   have b:¬ decide (q.1≠k)=true:=by simp [h1.symm.trans e]
   rw [if_neg a,if_neg b];exact ih
  ·have e':¬ q.1=k:=fun z=>e (h1.trans z)
   have a:decide (p.1≠k)=true:=by simp [e]
   have b:decide (q.1≠k)=true:=by simp [e']
   rw [if_pos a,if_pos b];exact .cons ⟨h1,h2⟩ ih
theorem KV.length {kvs:List (κ×V)} {vs:List (κ×Value)} (r:KV kvs vs):kvs.length=vs.length:=Paired.length r
end
theorem mw {P:Program} {w:World} {k:Key} {u:Value} (r:RelV (kV k) u):(bh P w).is k u=true:=by
 cases k with
 | inl i=>obtain ⟨t,e⟩:=(show ∃ t,u=Value.int i t from r);subst e;exact m5 P w i t
 | inr x=>obtain ⟨t,e⟩:=(show ∃ t,u=Value.str x t from r);subst e;exact nO P w x t
theorem l5 {P:Program} {w:World}:∀ {ks:List Key} {us:List Value},Vals (ks.map kV) us→ItemsAre (bh P w) ks us
 | [],_,r=>by rw [List.map_nil] at r;cases r;exact .nil
 | k :: ks,_,r=>by
  rw [List.map_cons] at r
  cases r with
  | cons h t=>exact .cons (mw h) (l5 t)
abbrev KT (H:Hp):List (List Key×V)→List (List Key×Addr×Value)→Prop:=Paired fun p q=>p.1=q.1∧H q.2.1=some (.tup (p.1.map kV))∧RelV p.2 q.2.2
theorem KT.val {H:Hp} {kvs:List (List Key×V)} {xs:List (List Key×Addr×Value)} (r:KT H kvs xs) (k:List Key):RelO (valV kvs k) ((atKey xs k).map (·.2)):=by
 induction r with
 | nil=>exact True.intro
 | @cons p q ps qs h t ih =>
  obtain ⟨h1,_,h2⟩:=h
  by_cases e:p.1=k
  ·have e':q.1=k:=h1.symm.trans e
   have b:atKey (q :: qs) k=some q.2:=by simp [atKey,List.find?_cons,e']
   rw [iu e,b];exact h2
  ·have e':¬ q.1=k:=fun z=>e (h1.trans z)
   have b:atKey (q :: qs) k=atKey qs k:=by simp [atKey,List.find?_cons,e']
   rw [iq e,b];exact ih
theorem KT.repl {H:Hp} {kvs:List (List Key×V)} {xs:List (List Key×Addr×Value)} (r:KT H kvs xs) (k:List Key) {y:V} {u:Value} (ry:RelV y u) :
  KT H (kvs.map fun kv=>if kv.1=k then (kv.1,y) else kv) (xs.map (putAt k u)):=by
 induction r with
 | nil=>exact .nil
 | @cons p q ps qs h t ih =>
  rw [List.map_cons,List.map_cons]
  refine .cons ?_ ih
  obtain ⟨h1,h2,h3⟩:=h
  unfold putAt
  by_cases e:p.1=k
  ·rw [if_pos e,if_pos (h1.symm.trans e)];exact⟨h1,h2,ry⟩
  ·rw [if_neg e,if_neg (fun z=>e (h1.trans z))];exact⟨h1,h2,h3⟩
theorem KT.put {H:Hp} {kvs:List (List Key×V)} {xs:List (List Key×Addr×Value)} (r:KT H kvs xs) (k:List Key) {b:Addr} {y:V} {u:Value} (hb:H b=some (.tup (k.map kV))) (ry:RelV y u) :
  KT H (putK kvs k y) (storedH xs k b u):=by
 have e:(kvs.any fun kv=>decide (kv.1=k))=(atKey xs k).isSome:=by
  rw [oT,(r.val k).isSome_eq,Option.isSome_map]
 unfold putK storedH
 rw [e]
 by_cases q:(atKey xs k).isSome=true
 ·rw [if_pos q,if_pos q];exact r.repl k ry
 ·rw [if_neg q,if_neg q];exact Paired.snoc r ⟨rfl,hb,ry⟩
theorem KT.keeps {H H':Hp} {kvs:List (List Key×V)} {xs:List (List Key×Addr×Value)} (r:KT H kvs xs) (ht:∀ b ys,H b=some (.tup ys)→H' b=some (.tup ys)):KT H' kvs xs :=
 Paired.mapP r fun _ _ z=>⟨z.1,ht _ _ z.2.1,z.2.2⟩
section
variable {P:Program} {w:World} {H:Hp} {h:Heap} {a:Addr}
theorem zu {u:HO} (ok:HOk P w H h) (e:Rd H a u):cc P w H h a u:=e.ok ok
theorem iZ {kvs:List (Key×V)} (ok:HOk P w H h) (e:Rd H a (.dK kvs)):kvs.length≤sizeLine∧(a == sysModules)=false∧∃ vs,KV kvs vs∧h.DictOf (bh P w) a vs :=
 show cc P w H h a (.dK kvs) from zu ok e
theorem uB {kvs:List (Key×V)} (ok:HOk P w H h) (e:H a=some (.dK kvs)):kvs.length≤sizeLine∧(a == sysModules)=false∧∃ vs,KV kvs vs∧h.DictOf (bh P w) a vs:=iZ ok (.inl e)
theorem jO {ks:List Key} (ok:HOk P w H h) (e:H a=some (.tup (ks.map kV))):(tupleKind (bh P w)).is h ks a:=by
 obtain ⟨_,its,r,o,h1,h2,n,h3⟩:=(show cc P w H h a (.tup (ks.map kV)) from ok a _ e)
 exact⟨o,its.toArray,n,h1,h2,h3,by simpa using l5 r⟩
theorem ot {kvs:List (List Key×V)} (ok:HOk P w H h) (e:Rd H a (.dT kvs)):kvs.length≤sizeLine∧(a == sysModules)=false ∧
  ∃ xs,KT H kvs xs∧h.DictOfH (tupleKind (bh P w)) a xs:=by
 obtain ⟨z,y,xs,r,o,es,ep,h1,h2,h3,h4,h5⟩:=(show cc P w H h a (.dT kvs) from zu ok e)
 refine⟨z,y,xs,r,o,es,ep,h1,h2,h3,h4,fun x hx=>?_,h5⟩
 have all:∀ {l:List (List Key×V)} {m:List (List Key×Addr×Value)},KT H l m→∀ x∈m,(tupleKind (bh P w)).is h x.1 x.2.1:=by
  intro l m q
  induction q with
  | nil=>intro x hx;exact nomatch hx
  | @cons p q ps qs hq t ih =>
   intro x hx
   rcases CQ.mp hx with e | hx
   ·subst e
    exact jO ok (by rw [← hq.1];exact hq.2.1)
   ·exact ih x hx
 exact all r x hx
theorem Cr {kvs:List (List Key×V)} (ok:HOk P w H h) (e:H a=some (.dT kvs)):kvs.length≤sizeLine∧(a == sysModules)=false ∧
  ∃ xs,KT H kvs xs∧h.DictOfH (tupleKind (bh P w)) a xs:=ot ok (.inl e)
end
def DGet (H:Hp) (a:Addr) (y:V) (r:Option V):Prop :=
 (∃ kvs k,Rd H a (.dK kvs)∧y=kV k∧r=valV kvs k)∨∃ kvs k b,Rd H a (.dT kvs)∧y=.ref b∧H b=some (.tup (k.map kV))∧r=valV kvs k
def DPut (H:Hp) (a:Addr) (y v:V) (H':Hp):Prop :=
 (∃ kvs k,H a=some (.dK kvs)∧y=kV k∧kvs.length < sizeLine∧H'=upd H a (.dK (putK kvs k v))) ∨
 ∃ kvs k b,H a=some (.dT kvs)∧y=.ref b∧H b=some (.tup (k.map kV))∧kvs.length < sizeLine∧H'=upd H a (.dT (putK kvs k v))
theorem DGet.k {H:Hp} {a:Addr} {kvs:List (Key×V)} {k:Key} (e:H a=some (.dK kvs)):DGet H a (kV k) (valV kvs k):=.inl ⟨kvs,k,.inl e,rfl,rfl⟩
theorem DPut.k {H:Hp} {a:Addr} {kvs:List (Key×V)} {k:Key} {v:V} (e:H a=some (.dK kvs)) (hl:kvs.length < sizeLine):DPut H a (kV k) v (upd H a (.dK (putK kvs k v))):=.inl ⟨kvs,k,e,rfl,hl,rfl⟩
section
variable {X:Cx} {pins:List (Addr×Obj)} {σ:St} {H:Hp} {s:Shared} {a:Addr} {y v:V} {u r:Value} {o:Option V} {A:Around} {E:Value→Shared→Prop}
theorem Inv.big (I:Inv X pins σ H s):sysModules < s.heap.objs.size:=by
 have h:mainGlobals < s.heap.objs.size:=(I.mod.glob.keeps I.bk).lt
 exact Nat.lt_trans (by decide) h
theorem sP {Q:Value→Shared→Prop} (hu:A.units + 1 < cLine) (I:Inv X pins σ H s) (g:DGet H a y (some v)) (ry:RelV y u) (h:∀ w' s',Inv X pins σ H s'→RelV v w'→Q w' s') :
  wpAny (model X.prog X.w) A (getItem (.ref a) u) Q E s:=by
 rcases g with ⟨kvs,k,e,ey,l⟩ | ⟨kvs,k,b,e,ey,eb,l⟩
 ·subst ey
  obtain ⟨z,hd,vs,rel,dd⟩:=iZ I.hok e
  obtain ⟨w',hw,rw'⟩:=RelO.some_of (v:=v) (o:=valueAt vs k) (by rw [l];exact rel.val k)
  exact wpAny_getItem_of (mw ry) dd.mapOf hw (h w' _ (I.tok _) rw')
 ·subst ey
  cases (show u=Value.ref b from ry)
  obtain ⟨z,hd,xs,rel,dd⟩:=ot I.hok e
  obtain ⟨w',hw,rw'⟩:=RelO.some_of (v:=v) (o:=(atKey xs k).map (·.2)) (by rw [l];exact rel.val k)
  obtain ⟨p,hp,hp2⟩:=Option.map_eq_some_iff.mp hw
  refine wpAny_getItem_heap (tupleKind_room_in1 hu) (jO I.hok eb) dd hp ?_
  rw [hp2]
  exact h w' _ (I.tok _) rw'
theorem d_in {Q:Value→Shared→Prop} (hu:A.units + 1 < cLine) (I:Inv X pins σ H s) (g:DGet H a y o) (ry:RelV y u) (h:∀ s',Inv X pins σ H s'→Q (.bool o.isSome) s') :
  wpAny (model X.prog X.w) A (compareOp .In u (.ref a)) Q E s:=by
 rcases g with ⟨kvs,k,e,ey,l⟩ | ⟨kvs,k,b,e,ey,eb,l⟩
 ·subst ey
  obtain ⟨z,hd,vs,rel,dd⟩:=iZ I.hok e
  refine wpAny_in_of (mw ry) hd dd.mapOf ?_
  rw [← (rel.val k).isSome_eq,← l]
  exact h _ (I.tok _)
 ·subst ey
  cases (show u=Value.ref b from ry)
  obtain ⟨z,hd,xs,rel,dd⟩:=ot I.hok e
  refine wpAny_in_heap (tupleKind_room_in1 hu) (jO I.hok eb) hd dd ?_
  have q:=(rel.val k).isSome_eq
  rw [Option.isSome_map] at q
  rw [← q,← l]
  exact h _ (I.tok _)
theorem xa {Q:Value→Shared→Prop} (hu:A.units + 1 < cLine) (I:Inv X pins σ H s) (g:DGet H a y o) (ry:RelV y u) (h:∀ s',Inv X pins σ H s'→Q (.bool (!o.isSome)) s') :
  wpAny (model X.prog X.w) A (compareOp .NotIn u (.ref a)) Q E s:=by
 rcases g with ⟨kvs,k,e,ey,l⟩ | ⟨kvs,k,b,e,ey,eb,l⟩
 ·subst ey
  obtain ⟨z,hd,vs,rel,dd⟩:=iZ I.hok e
  refine wpAny_notIn_of (mw ry) hd dd.mapOf ?_
  rw [← (rel.val k).isSome_eq,← l]
  exact h _ (I.tok _)
 ·subst ey
  cases (show u=Value.ref b from ry)
  obtain ⟨z,hd,xs,rel,dd⟩:=ot I.hok e
  refine wpAny_notIn_heap (tupleKind_room_in1 hu) (jO I.hok eb) hd dd ?_
  have q:=(rel.val k).isSome_eq
  rw [Option.isSome_map] at q
  rw [← q,← l]
  exact h _ (I.tok _)
theorem mJ {h':Heap} {t':Nat} {ob:HO} (I:Inv X pins σ H s) (mu:Mut (H a)) (hs:Heap.SameBut a s.heap h') (he:∃ q,h'.get? a=some q) (new:cc X.prog X.w (upd H a ob) h' a ob) :
  Inv X pins σ (upd H a ob) { s with heap:=h',toks:=t' } :=
 I.write (x:=a) (e:=a) mu (.inl rfl) (fun b q hb z=>(hs.2 b hb).trans z) he new
theorem uc {P:Program} {w:World} {H':Hp} {h':Heap} {kvs:List (Key×V)} {vs:List (Key×Value)} (z:kvs.length≤sizeLine) (hd:(a == sysModules)=false) (rel:KV kvs vs) (dd:h'.DictOf (bh P w) a vs) :
  cc P w H' h' a (.dK kvs):=⟨z,hd,vs,rel,dd⟩
theorem re {H':Hp} {Q:Unit→Shared→Prop} (hu:A.units + 1 < cLine) (I:Inv X pins σ H s) (g:DPut H a y v H') (ry:RelV y u) (rv:RelV v r) (h:∀ s',Inv X pins σ H' s'→Q () s') :
  wpAny (model X.prog X.w) A (setItem (.ref a) u r) Q E s:=by
 rcases g with ⟨kvs,k,e,ey,l,eH⟩ | ⟨kvs,k,b,e,ey,eb,l,eH⟩
 ·subst ey eH
  obtain ⟨z,hd,vs,rel,dd⟩:=uB I.hok e
  have hz:vs.length≤sizeLine:=by rw [← rel.length];exact z
  have hl:(putK kvs k v).length≤sizeLine:=by have:=fC kvs k v;omega
  refine wpAny_setItem_pairs (hsz:=hz) (mw ry) dd fun h' dd' hs=>h _ ?_
  have he:∃ q,h'.get? a=some q:=let ⟨q,_,_,hq,_⟩:=dd';⟨q,hq⟩
  exact mJ I (by rw [e];exact True.intro) hs he (uc hl hd (rel.put k rv) dd')
 ·subst ey eH
  cases (show u=Value.ref b from ry)
  obtain ⟨z,hd,xs,rel,dd⟩:=Cr I.hok e
  have hz:xs.length≤sizeLine:=by rw [← Paired.length rel];exact z
  have hl:(putK kvs k v).length≤sizeLine:=by have:=fC kvs k v;omega
  refine wpAny_setItem_heap (hsz:=hz) (tupleKind_room_in1 hu) (jO I.hok eb) dd fun h' dd' hs=>h _ ?_
  obtain ⟨q,es,ep,hq,h2,h3,h4,_,h5⟩:=dd'
  refine mJ I (by rw [e];exact True.intro) hs ⟨q,hq⟩ ⟨hl,hd,_,(rel.put k eb rv).keeps fun c ys ec=>?_,q,es,ep,hq,h2,h3,h4,h5⟩
  rw [aO (CD ec e (fun z=>nomatch z))]
  exact ec
end
section
variable {X:Cx} {pins:List (Addr×Obj)} {σ:St} {H:Hp} {s:Shared} {a:Addr} {kvs:List (Key×V)} {k:Key} {u:Value} {A:Around} {E:Value→Shared→Prop}
end
def NoSl (i:Expr):Prop:=∀ ov iv,subscripted i false ov iv=operate [ov,iv] (getItem ov iv)
theorem yy {prog:Program} {w:World} {A:Around} {E:Value→Shared→Prop} {s:Shared} {env:Env} {value slice:Expr} {pos:Pos} {T id:String} {Q:Value→Shared→Prop}
  (hl:typeLookup (.type T) "__getitem__"=pure (some (.builtin id))) (hs:NoSl slice)
  (h:wpAny (model prog w) A (eval value env) (fun o s₁=>wpAny (model prog w) A (eval slice env) (fun i s₂=>s₂.TypeIs o T∧wpAny (model prog w) A (getItem o i) Q E s₂) E s₁) E s) :
  wpAny (model prog w) A (eval (.Subscript value slice pos) env) Q E s:=by
 refine Subscript_ (wpAny_mono h (fun o s₁ h₁=>wpAny_mono h₁ (fun i s₂ h₂=>?_) fun _ _ x=>x) fun _ _ x=>x)
 obtain ⟨hT,h₂⟩:=h₂
 unfold subscriptTail
 refine wpAny_bind ?_
 rw [getitemInPython_of_ne hT.not_modules]
 refine wpAny_bind (wpAny_specialOf hT hl ?_)
 have fin:wpAny (model prog w) A (subscripted slice false o i) (fun r s₃=>wpAny (model prog w) A (letTemporaryGo value o r >>= fun _=>pure r) Q E s₃) E s₂:=by
  rw [hs o i]
  exact wpAny_operating (wpAny_mono h₂ (fun r s₃ h₃=>wpAny_bind (wpAny_letTemporaryGo (wpAny_pure h₃))) fun _ _ x=>x)
 first
  | exact wpAny_pure (wpAny_bind fin)
  | exact wpAny_bind (wpAny_pure (wpAny_bind fin))
  | exact wpAny_bind fin
theorem nv {X:Cx} {pins:List (Addr×Obj)} {σ:St} {H:Hp} {s:Shared} {a:Addr} {y:V} {o:Option V} (I:Inv X pins σ H s) (g:DGet H a y o):s.TypeIs (.ref a) "dict":=by
 rcases g with ⟨kvs,k,e,_,_⟩ | ⟨kvs,k,b,e,_,_,_⟩
 ·obtain ⟨_,_,vs,_,dd⟩:=iZ I.hok e
  exact dd.typeIs
 ·obtain ⟨_,_,xs,_,dd⟩:=ot I.hok e
  exact dd.typeIs
def Cj (td ty:TE):TE:=fun σ H Q=>td σ H fun x H1=>ty σ H1 fun y H2=>∃ a v,x=.ref a∧DGet H2 a y (some v)∧Q v H2
def BZ (td ty tv:TE):TS:=fun D σ H=>tv σ H fun v H1=>td σ H1 fun x H2=>ty σ H2 fun y H3=>∃ a H4,x=.ref a∧DPut H3 a y v H4∧D.nx σ H4
section
variable {X:Cx} {o i e value:Expr} {pos pos' tpos:Pos} {td ty tv:TE}
theorem xD (hu:X.A.units + 1 < cLine) (ho:PE X o td) (hi:PE X i ty) (hs:NoSl i):PE X (.Subscript o i pos) (Cj td ty):=by
 intro pins s σ H Q I h
 refine yy PySem.F.slot_dict_getitem.lookup hs (thn (ho pins s σ H _ I h) fun u s1 ⟨x,H1,I1,rx,q1⟩=>thn (hi pins s1 σ H1 _ I1 q1) fun iv s2 ⟨y,H2,I2,ry,a,v,ex,g,q2⟩=>?_)
 subst ex
 obtain rfl:u=Value.ref a:=rx
 exact⟨nv I2 g,sP hu I2 g ry fun w' s3 I3 rw'=>⟨v,H2,I3,rw',q2⟩⟩
theorem xL (hu:X.A.units + 1 < cLine) (ho:PE X o td) (hi:PE X i ty) (hv:PE X value tv) (hs:swapsWith value (some (.Subscript o i pos')) pos.line X.env=pure false) :
  PS X (.Assign [.Subscript o i pos'] value pos) (BZ td ty tv):=by
 intro pins s σ H D I h
 refine wpAny_Assign_Subscript (thn (hv pins s σ H _ I h) fun r s1 ⟨v,H1,I1,rv,q1⟩=>thn (ho pins s1 σ H1 _ I1 q1) fun u s2 ⟨x,H2,I2,rx,q2⟩=>thn (hi pins s2 σ H2 _ I2 q2) fun iv s3 ⟨y,H3,I3,ry,a,H4,ex,g,q3⟩=>?_) hs
 subst ex
 obtain rfl:u=Value.ref a:=rx
 exact re hu I3 g ry rv fun s4 I4=>⟨σ,H4,I4,q3⟩
end
theorem p8 {P:Program} {w:World} {H:Hp} (h:Heap) (hb:sysModules < h.objs.size):cc P w H (h.push { cls:=.type "dict",data:=.dict #[] }) h.objs.size (.dK []) :=
 ⟨Nat.zero_le _,beq_eq_false_iff_ne.mpr (Ne.symm (Nat.ne_of_lt hb)),[],.nil,Heap.DictOf.new h⟩
def Bh:TE:=fun _ H Q=>∀ p,H p=none→Q (.ref p) (upd H p (.dK []))
section
variable {X:Cx} {pos:Pos}
theorem oI:PE X (.Dict [] [] pos) Bh:=fun pins s σ H Q I h =>
 wpAny_Dict_empty ⟨.ref s.heap.objs.size,_,I.laid (a:=s.heap.objs.size) (o:=.dK []) (t':=s.toks) (fun _ _ q=>CO _ q) (Nat.le_refl _) (p8 s.heap I.big),rfl,h _ (I.hok.fresh (Nat.le_refl _))⟩
end
def s0:List (TE×TE)→St→Hp→(List (V×V)→Hp→Prop)→Prop
 | [],_,H,Q=>Q [] H
 | (tk,tv) :: r,σ,H,Q=>tk σ H fun x H1=>tv σ H1 fun y H2=>s0 r σ H2 fun ps H3=>Q ((x,y) :: ps) H3
abbrev VV:List (V×V)→List (Value×Value)→Prop:=Paired fun p q=>RelV p.1 q.1∧RelV p.2 q.2
def PPs (X:Cx) (pos:Pos) (keys:List (Option Expr)) (values:List Expr) (trs:List (TE×TE)):Prop :=
 ∀ (pins:List (Addr×Obj)) (s:Shared) (σ:St) (H:Hp) (Q:List (V×V)→Hp→Prop),Inv X pins σ H s→s0 trs σ H Q →
  wpAny (model X.prog X.w) X.A (evalPairs (pairTrees keys values X.env pos)) (fun vs s'=>∃ ps H',Inv X pins σ H' s'∧VV ps vs∧Q ps H') X.xe s
theorem xu {X:Cx} {pos:Pos}:PPs X pos [] [] []:=fun pins s σ H Q I h=>pairTrees_nil_walk ⟨[],H,I,.nil,h⟩
theorem oO {X:Cx} {pos:Pos} {k v:Expr} {ks:List (Option Expr)} {vs:List Expr} {tk tv:TE} {trs:List (TE×TE)} (hk:PE X k tk) (hv:PE X v tv) (hr:PPs X pos ks vs trs) :
  PPs X pos (some k :: ks) (v :: vs) ((tk,tv) :: trs):=fun pins s σ H Q I h =>
 pairTrees_cons_walk (thn (hk pins s σ H _ I h) fun u s1 ⟨x,H1,I1,rx,q1⟩=>thn (hv pins s1 σ H1 _ I1 q1) fun w2 s2 ⟨y,H2,I2,ry,q2⟩ =>
  thn (hr pins s2 σ H2 _ I2 q2) fun ws s3 ⟨ps,H3,I3,rel,q3⟩=>⟨(x,y) :: ps,H3,I3,.cons ⟨rx,ry⟩ rel,q3⟩)
def jY (kvs more:List (Key×V)):List (Key×V):=more.foldl (fun acc kv=>putK acc kv.1 kv.2) kvs
theorem KV.merge:∀ {more:List (Key×V)} {rs:List (Key×Value)} {kvs:List (Key×V)} {vs:List (Key×Value)},KV more rs→KV kvs vs→KV (jY kvs more) (merged vs rs):=by
 intro more rs kvs vs r
 unfold KV at r
 induction r generalizing kvs vs with
 | nil=>intro q;exact q
 | @cons p q ps qs h t ih =>
  intro r0
  have e:KV (putK kvs p.1 p.2) (stored vs q.1 q.2):=by
   have:=r0.put p.1 h.2
   rw [← h.1];exact this
  exact ih e
theorem gi:∀ (more kvs:List (Key×V)),(jY kvs more).length≤kvs.length + more.length
 | [],kvs=>by show kvs.length≤kvs.length + 0;omega
 | p :: r,kvs=>by
  have h1:=gi r (putK kvs p.1 p.2)
  have h2:=fC kvs p.1 p.2
  show (jY (putK kvs p.1 p.2) r).length≤_
  rw [CZ];omega
theorem jR {P:Program} {w:World}:∀ {kvs:List (Key×V)} {ws:List (Value×Value)},VV (kvs.map fun kv=>(kV kv.1,kv.2)) ws→∃ rs,Carries (bh P w) ws rs∧KV kvs rs
 | [],_,r=>by rw [List.map_nil] at r;cases r;exact⟨[],True.intro,.nil⟩
 | p :: kvs,_,r=>by
  rw [List.map_cons] at r
  cases r with
  | @cons a b as bs h t =>
   obtain ⟨rs,c,q⟩:=jR (P:=P) (w:=w) t
   obtain ⟨b1,b2⟩:=b
   exact⟨(p.1,b2) :: rs,⟨mw h.1,rfl,c⟩,.cons ⟨rfl,h.2⟩ q⟩
def BW (trs:List (TE×TE)):TE:=fun σ H Q=>∀ p,H p=none→s0 trs σ (upd H p (.dK [])) fun ps H2=>H2 p=some (.dK [])∧∃ kvs:List (Key×V),ps=kvs.map (fun kv=>(kV kv.1,kv.2))∧kvs.length≤15∧Q (.ref p) (upd H2 p (.dK (jY [] kvs)))
theorem yC {X:Cx} {pos:Pos} {keys:List (Option Expr)} {values:List Expr} {trs:List (TE×TE)} (h:PPs X pos keys values trs) (hall:keys.all (·.isSome)=true) (hl:keys.length=values.length) (h0:keys≠[])
  (h15:keys.length≤15):PE X (.Dict keys values pos) (BW trs):=by
 intro pins s σ H Q I q
 have hn:=I.hok.fresh (Nat.le_refl s.heap.objs.size)
 have I1:=I.laid (a:=s.heap.objs.size) (o:=.dK []) (h':=s.heap.push { cls:=.type "dict",data:=.dict #[] }) (t':=s.toks) (fun _ _ q=>CO _ q) (Nat.le_refl _) (p8 s.heap I.big)
 refine wpAny_Dict_walk (knd:=bh X.prog X.w) hall hl h0 h15 (thn (h pins _ σ _ _ I1 (q _ hn)) fun ws s2 ⟨ps,H2,I2,rel,e,kvs,ep,lk,q2⟩=>?_)
 subst ep
 obtain ⟨rs,c,rk⟩:=jR (P:=X.prog) (w:=X.w) rel
 obtain ⟨z,hd,vs0,r0,dd⟩:=uB I2.hok e
 cases r0
 refine⟨rs,c,dd,fun h' dd' hs=>⟨.ref s.heap.objs.size,_,?_,rfl,q2⟩⟩
 have hz:(jY [] kvs).length≤sizeLine:=by
  have h1:=gi kvs []
  rw [List.length_nil] at h1
  rw [sizeLine_eq];omega
 have he:∃ q,h'.get? s.heap.objs.size=some q:=let ⟨q,_,_,hq,_⟩:=dd';⟨q,hq⟩
 exact mJ I2 (by rw [e];exact True.intro) hs he (uc hz hd (rk.merge .nil) dd')
structure M2 (X:Cx) (o:Expr) (m:Str) (apos:Pos) (e f:Expr) (cpos:Pos):Prop where
 base:attributeBase o m X.env (eval o X.env)=eval o X.env
 few:((backTo cpos (starEach [e,f] X.env)).all (fun x=>!x.1) && (backToKw cpos (keywordEach [] X.env)).all (fun x=>x.1.isSome)
  && decide (([e,f]:List Expr).length + ([]:List Keyword).length + (if ([]:List Keyword).isEmpty then 0 else 1) < 30))=true
 line:(apos.endLine == cpos.line)=true
 trees:backTo cpos (starEach [e,f] X.env)=[(false,eval e X.env),(false,eval f X.env)]
def IsD (H:Hp) (a:Addr):Prop:=(∃ kvs,Rd H a (.dK kvs))∨∃ kvs,Rd H a (.dT kvs)
theorem AW {X:Cx} {pins:List (Addr×Obj)} {σ:St} {H:Hp} {s:Shared} {a:Addr} (I:Inv X pins σ H s) (d:IsD H a) :
  s.TypeIs (.ref a) "dict"∧(∀ b,Value.ref a=.ref b→∃ ob,s.heap.get? b=some ob∧ob.dict=none)∧(a == sysModules)=false:=by
 rcases d with ⟨kvs,e⟩ | ⟨kvs,e⟩
 ·obtain ⟨_,hd,vs,_,dd⟩:=iZ I.hok e
  refine⟨dd.typeIs,fun b q=>?_,hd⟩
  cases q
  obtain ⟨ob,_,_,h1,h2,_⟩:=dd
  exact⟨ob,h1,h2.2.1⟩
 ·obtain ⟨_,hd,xs,_,dd⟩:=ot I.hok e
  refine⟨dd.typeIs,fun b q=>?_,hd⟩
  cases q
  obtain ⟨ob,_,_,h1,h2,_⟩:=dd
  exact⟨ob,h1,h2.2.1⟩
section
variable {X:Cx} {pins:List (Addr×Obj)} {σ:St} {H:Hp} {s:Shared} {a:Addr} {y d:V} {u r:Value} {o:Option V} {A:Around} {E:Value→Shared→Prop}
theorem AK {Q:Value→Shared→Prop} (hu:A.units + 1 < cLine) (I:Inv X pins σ H s) (g:DGet H a y o) (ry:RelV y u) (rd:RelV d r) (h:∀ w' s',Inv X pins σ H s'→RelV (o.getD d) w'→Q w' s') :
  wpAny (model X.prog X.w) A (call (.builtin "dict.get") [.ref a,u,r]) Q E s:=by
 rcases g with ⟨kvs,k,e,ey,l⟩ | ⟨kvs,k,b,e,ey,eb,l⟩
 ·subst ey
  obtain ⟨z,hd,vs,rel,dd⟩:=iZ I.hok e
  refine call_meetsIn PySem.F.slot_dict_get dd.typeIs PySem.F.entry_dict_get (PySem.F.args_dict_get_3 _ _ _) (meets_dict_get_default (bh X.prog X.w) a (mw ry) hd r) ⟨_,dd.mapOf,h _ _ (I.tok _) ?_⟩
  rw [l]
  exact (rel.val k).getD rd
 ·subst ey
  cases (show u=Value.ref b from ry)
  obtain ⟨z,hd,xs,rel,dd⟩:=ot I.hok e
  refine call_meetsIn PySem.F.slot_dict_get dd.typeIs PySem.F.entry_dict_get (PySem.F.args_dict_get_3 _ _ _) (meetsH_dict_get_default (tupleKind (bh X.prog X.w)) a b hd r) ⟨tupleKind_room_in1 hu,k,xs,jO I.hok eb,dd,h _ _ (I.tok _) ?_⟩
  rw [l]
  exact (rel.val k).getD rd
end
def AI (td ty tx:TE):TE:=fun σ H Q=>td σ H fun x H1=>∃ a,x=.ref a∧IsD H1 a∧ty σ H1 fun y H2=>tx σ H2 fun z H3=>∃ o,DGet H3 a y o∧Q (o.getD z) H3
section
variable {X:Cx} {o e f:Expr} {apos cpos:Pos} {td ty tx:TE}
theorem uI (hu:X.A.units + 1 < cLine) (ho:PE X o td) (he:PE X e ty) (hf:PE X f tx) (m:M2 X o "get" apos e f cpos):PE X (.Call (.Attribute o "get" apos) [e,f] [] cpos) (AI td ty tx):=by
 intro pins s σ H Q I h
 refine wpAny_Call_method m.base m.few m.line PySem.F.plainAttrs_dict PySem.F.slot_dict_get PySem.F.type_dict_get (thn (ho pins s σ H _ I h) fun u s1 ⟨x,H1,I1,rx,a,ex,d,q1⟩=>?_)
 subst ex
 obtain rfl:u=Value.ref a:=rx
 obtain ⟨t1,t2,_⟩:=AW I1 d
 refine⟨t1,t2,?_⟩
 rw [m.trees]
 refine Calls.callWith_builtin rfl (Calls.evalArgs_plain (Calls.spliced_cons (thn (he pins s1 σ H1 _ I1 q1) fun iv s2 ⟨y,H2,I2,ry,q2⟩ =>
  Calls.spliced_cons (thn (hf pins s2 σ H2 _ I2 q2) fun fv s3 ⟨z,H3,I3,rz,ov,g,q3⟩=>Calls.spliced_nil ?_))))
 exact AK hu I3 g ry rz fun w' s4 I4 rw'=>⟨_,H3,I4,rw',q3⟩
end
section
variable {X:Cx} {pins:List (Addr×Obj)} {σ:St} {H:Hp} {s:Shared} {a:Addr} {kvs:List (Key×V)} {A:Around} {E:Value→Shared→Prop}
end
section
variable {X:Cx} {pins:List (Addr×Obj)} {σ:St} {H:Hp} {s:Shared} {a:Addr} {y:V} {u:Value} {A:Around} {E:Value→Shared→Prop}
end
end L2
namespace Att
open PySem PySem.W PySem.Calls PyProof.Rows
theorem i9 {P:Params} {h:Heap}:∀ (ns:List Int) (vs:List Value),WellAll P h vs (ns.map WData.int)→IntsAre vs ns:=by
 intro ns
 induction ns with
 | nil =>
  intro vs w
  rw [List.map_nil] at w
  cases w
  exact .nil
 | cons n ns ih =>
  intro vs w
  rw [List.map_cons] at w
  cases w with
  | cons a b =>
   cases a
   exact .cons _ _ (ih _ b)
theorem script_of {l:OpenLaw} {n:Nat} (hn:l.most=some n) {P:Params} {h:Heap} {args:List WData} {vals:List Value}
  (hpre:l.row.toRowW.claim.pre args=true) (hwl:WellAll P h vals args) :
  ∃ a vs ns,vals=[Value.ref a]∧args=[WData.list (ns.map WData.int)]∧h.get? a=some { cls:=.type "list",data:=.seq vs.toArray }∧IntsAre vs ns∧ns.length≤n:=by
 have hsh:WShape.hasAll [] args [.list .int]=true:=(pre_splitW hpre).1
 have hc:l.pre.holds [] { args:=args }=true:=(pre_splitW hpre).2
 obtain ⟨d,r,rfl,h1,h2⟩:=hasAllW_cons hsh
 obtain rfl:=hasAllW_nil h2
 obtain ⟨xs,rfl,h3⟩:=hasW_list h1
 obtain ⟨ns,rfl⟩:=items_int h3
 have hlen:ns.length≤n:=by
  unfold OpenLaw.pre at hc
  have h4:(WTm.not (.lt (.lit (.int (n:Int))) (.len (.arg 0)))).holds [] { args:=[.list (ns.map .int)] }=true:=by
   have h4:=(holds_andW hc).1
   rw [hn] at h4
   exact h4
  have h5:=condW_of h4 (w_not (w_lt w_lit (w_len_list (w_arg rfl))))
  rw [CK] at h5
  refine Nat.le_of_not_lt fun q=>?_
  have q':(n:Int) < ((ns.length:Nat):Int):=by omega
  first
   | (rw [decide_eq_true q'] at h5;exact absurd h5 (by decide))
   | (simp at h5;omega)
 cases hwl with
 | cons w1 w2 =>
  cases w2
  cases w1 with
  | list ho hall=>exact⟨_,_,ns,rfl,rfl,ho,i9 ns _ hall,hlen⟩
theorem post_true (l:OpenLaw) (args:List WData):l.row.toRowW.claim.post args (.bool true) args=true :=
 postW_of (r:=l.row.toRowW) (X:=(true == true))
  (show WShape.has [] (.bool true) .bool=true by first | rfl | decide | simp [WShape.has,WShape.arms,WShape.armsAll])
  (show (WTm.eq .res (.lit (.bool true))).value [] { args:=args,res:=some (.bool true),after:=args }=some (.bool (true == true)) from w_eq_bool (w_res rfl) w_lit) rfl
section
variable {prog:Program} {w:World} {A:Around} {E:Value→Shared→Prop} {s:Shared} {K:Frag}
end
end Att
namespace L2
open PySem PySem.Spec PyProof.Rows
theorem mf:∀ {vs:List Value} {ns:List Int},IntsAre vs ns→Vals (ns.map V.int) vs
 | _,_,.nil=>.nil
 | _,_,.cons n t h=>.cons ⟨t,rfl⟩ (mf h)
def Only (H:Hp):Prop:=∀ b,H b=none∨∃ o xs,H b=some (.frz o (.lst xs))
theorem uy {P:Program} {w:World} {K:PySem.W.Frag} {mg mb:Str→Option Value} {CX:CXT} {k:Nat} {fa a:Addr} {fd:FuncData} {x:Str} {sp:Sp} {s₁:Shared} {vs:List Value} {ns:List Int}
  (KX:K.In s₁.heap) (hns:s₁.heap.Ns mainGlobals mg) (hb:s₁.heap.Ns builtinsNs mb) (hbb:∀ x:Str,x≠"__name__"→mb x=bootBuiltins x) (hlim:s₁.heap.NoLimit) (hg:s₁.gens=#[])
  (ha:s₁.heap.get? a=some { cls:=.type "list",data:=.seq vs.toArray }) (hi:IntsAre vs ns) (hl:ns.length≤sizeLine) (hr:Room k callerA)
  (F:∀ base:Heap,K.In base→base.Ns mainGlobals mg→FnOk P w K mg base CX k fa fd [x] sp) (hbind:∀ (s:Shared) (u:Value),BindsTo s fd ⟨[u],[]⟩ [(x,u)])
  (hsp:∀ H:Hp,Only H→SqL K H a (ns.map V.int)→sp [.ref a] H (fun v _=>v=.bl true) fun _ _ _=>False)
  (hCX:∀ H e s',CX [] H s₁ (fun _ _ _=>False) e s'→False) :
  codeAny (model P w) callerA (.call (.ref fa) ⟨[.ref a],[]⟩) (fun r s'=>r=.ok (.ret (.bool true))∧OldK s₁.heap s'.heap∧s'.os=s₁.os∧AllBare s'.gens) s₁:=by
 have rv:=mf hi
 have lenV:=hi.length
 have core:∀ H:Hp,Only H→SqL K H a (ns.map V.int)→HOk P w H s₁.heap→(∀ b,H b≠none→b=a)→(H a≠none→K.lookup a=none) →
   codeAny (model P w) callerA (.call (.ref fa) ⟨[.ref a],[]⟩) (fun r s'=>r=.ok (.ret (.bool true))∧OldK s₁.heap s'.heap∧s'.os=s₁.os∧AllBare s'.gens) s₁:=by
  intro H hO hS hok hA hK
  have base_of:∀ {b:Addr} {o:Obj},s₁.heap.get? b=some o→H b=none→(hidT s₁.heap H).get? b=some o:=fun e n=>vM e n
  have noA:∀ {b:Addr} {o:Obj} {es:Array DictEntry} {ep:Nat},s₁.heap.get? b=some o→o.data=.dict es ep→H b=none:=fun {b o es ep} e d=>by
   cases q:H b with
   | none=>rfl
   | some u =>
    have e':b=a:=hA b (by rw [q];simp)
    subst e'
    rw [ha] at e;cases e
    have d':Data.seq vs.toArray _=Data.dict es ep:=d
    cases d'
  have nsK:∀ {b:Addr} {m:Str→Option Value},s₁.heap.Ns b m→(hidT s₁.heap H).Ns b m:=fun {b m} ⟨o,es,ep,e,d,r⟩=>⟨o,es,ep,base_of e (noA e d),d,r⟩
  have hKb:K.In (hidT s₁.heap H):=fun b o e=>base_of (KX b o e) (by
   cases q:H b with
   | none=>rfl
   | some u =>
    have e':b=a:=hA b (by rw [q];simp)
    subst e'
    rw [hK (by rw [q];simp)] at e;cases e)
  have hM:Mod K mg (hidT s₁.heap H):=⟨hKb,nsK hns,⟨mb,nsK hb,hbb⟩,let ⟨mc,h1,h2⟩:=hlim;⟨mc,nsK h1,h2⟩⟩
  have e0:Env0 P w K mg (hidT s₁.heap H) callerA [] s₁ H:=⟨rfl,hM,fun b o e=>wR e,Nat.le_of_eq (tJ _ _),trivial,fun b hb=>absurd (show b∈([]:List Addr) from hb) (by simp),hok,.of_eq hg⟩
  refine codeAny_mono ((F _ hKb (nsK hns)).run callerA [] s₁ H ⟨[.ref a],[]⟩ [.ref a] [.ref a] _ _ hr e0 (hbind s₁ (.ref a)) (.cons rfl .nil) (hsp H hO hS)) fun r s' h=>?_
  cases r with
  | error e=>exact (hCX H e s' h).elim
  | ok fl =>
   cases fl with
   | next=>exact False.elim h
   | brk=>exact False.elim h
   | cont=>exact False.elim h
   | ret u =>
    obtain ⟨v,H',os,bare,un,hok',r',q⟩:=h
    have q':v=.bl true:=q
    subst q'
    obtain rfl:u=Value.bool true:=r'
    refine⟨rfl,OldK.of_keep fun b o e=>?_,os,bare⟩
    cases q:H b with
    | none=>exact un.keep b o e q (by intro z;exact absurd (show b∈([]:List Addr) from z) (by simp)) (by simp)
    | some u =>
     rcases hO b with z | ⟨ob,xs,z⟩
     ·rw [q] at z;cases z
     ·have z2:=un.frzs b ob _ z
      obtain ⟨e1,_⟩:=hok b _ z
      obtain ⟨e2,_⟩:=hok' b _ z2
      rw [e] at e1;cases e1
      exact e2
 cases hk:K.lookup a with
 | some o =>
  have e:=KX a o hk
  rw [ha] at e
  cases e
  refine core (fun _=>none) (fun _=>.inl rfl) (.inr ⟨_,vs.toArray,_,hk,rfl,rfl,rfl,by rw [C7,lenV];exact hl,by simpa using rv⟩) (fun b u z=>by have z':(none:Option HO)=some u:=z;cases z') (fun b z=>absurd rfl z) fun z=>absurd rfl z
 | none =>
  refine core (fun b=>if b=a then some (.frz { cls:=.type "list",data:=.seq vs.toArray } (.lst (ns.map V.int))) else none) (fun b=>?_) (.inl (.inr ⟨{ cls:=.type "list",data:=.seq vs.toArray },if_pos rfl⟩)) (fun b u z=>?_) (fun b z=>?_) fun _=>hk
  ·by_cases hb:b=a
   ·exact .inr ⟨_,_,if_pos hb⟩
   ·exact .inl (if_neg hb)
  ·by_cases hb:b=a
   ·have z':=(if_pos hb).symm.trans z
    cases z'
    subst hb
    exact⟨ha,by rw [CK];exact hl,vs,_,rv,ha⟩
   ·have z':=(if_neg hb).symm.trans z
    cases z'
  ·by_cases hb:b=a
   ·exact hb
   ·exact absurd (if_neg hb) z
end L2
namespace L2
open PySem PySem.Spec PyProof.Rows
end L2
namespace L2
open PySem PySem.Spec PyProof.Rows
abbrev CX0:CXT:=fun _ _ _ _ _ _=>False
abbrev E0:XK:=fun _ _ _=>False
theorem uk {X:Cx}:sX CX0 X E0:=fun _ _ _ _ _ _ _ h=>h.elim
structure Fun (K:PySem.W.Frag) (x qual:Str) (st:Stmt) (f:Addr) (fd:FuncData):Prop where
 ex:∃ (oc:Value) (od:Option Addr) (kV doc pm:Value) (an:Option Addr) (cdv ct:Value) (osl:Array (Option Value)),
  fd=PySem.W.fnOf x qual (cI st) (bI st) (am st) .none kV doc pm an cdv ct∧K.lookup f=some ⟨oc,od,.func fd,osl⟩∧PySem.W.codeIn K cdv qual=true
 kp:PySem.W.keepIn K (.ref f)=true
section
variable {P:Program} {w:World} {K:PySem.W.Frag} {mg:Str→Option Value} {base:Heap}
theorem Fun.ok {x qual:Str} {st:Stmt} {f:Addr} {fd:FuncData} {N ps:List Str} {k:Nat} {sp:Sp} (F:Fun K x qual st f fd) (S:ax N ps (am st)) (len:∀ vs H Q E,sp vs H Q E→vs.length=ps.length)
    (hbody:∀ (cdv:Value) (A:Around) (outer:List Env) (s:Shared) (H:Hp) (vs:List V) (Q:VK) (E:XK),Room k (A.deeper (envOfC qual (am st) s.heap.objs.size f cdv))→sp vs H Q E →
      ∃ t,PSs (cxOf CX0 P w K mg base N qual (am st) f cdv A outer s H E).nox (bI st) t∧t { nx:=fun _ H'=>Q .non H',rt:=Q } (start N vs) H):FnOk P w K mg base CX0 (k + 1) f fd ps sp:=by
  obtain ⟨oc,od,kV,doc,pm,an,cdv,ct,osl,rfl,lk,hcd⟩:=F.ex
  refine BR lk hcd S len fun A outer s H vs Q E hr hsp=>?_
  obtain ⟨t,h,q⟩:=hbody cdv A outer s H vs Q E hr hsp
  exact⟨t,h.nox,q⟩
theorem Fun.binds {x qual:Str} {st:Stmt} {f:Addr} {fd:FuncData} {ps:List Str} (F:Fun K x qual st f fd)
  (h:∀ (kV doc pm:Value) (an:Option Addr) (cdv ct:Value) (us:List Value),us.length=ps.length→bindArgs (PySem.W.fnOf x qual (cI st) (bI st) (am st) .none kV doc pm an cdv ct) ⟨us,[]⟩=pure (ps.zip us)):lS K fd ps []:=by
 obtain ⟨oc,od,kV,doc,pm,an,cdv,ct,osl,rfl,lk,hcd⟩:=F.ex
 exact .all (h kV doc pm an cdv ct)
theorem v4 {x qual:Str} {st:Stmt} {f:Addr} {oc:Value} {od an:Option Addr} {osl:Array (Option Value)} {kV doc pm cdv ct:Value} (l:K.lookup f=some ⟨oc,od,.func (PySem.W.fnOf x qual (cI st) (bI st) (am st) .none kV doc pm an cdv ct),osl⟩)
  (c:PySem.W.codeIn K cdv qual=true) (k:PySem.W.keepIn K (.ref f)=true):Fun K x qual st f (PySem.W.fnOf x qual (cI st) (bI st) (am st) .none kV doc pm an cdv ct):=⟨⟨oc,od,kV,doc,pm,an,cdv,ct,osl,rfl,l,c⟩,k⟩
end
section
variable {X:Cx}
end
theorem ite2 {c A B:Prop} [Decidable c] (h1:c→A) (h2:¬ c→B):if c then A else B:=by
 by_cases h:c
 ·rw [if_pos h]
  exact h1 h
 ·rw [if_neg h]
  exact h2 h
def Same (H H':Hp):Prop:=∀ b o,H b=some o→H' b=some o
theorem Same.refl (H:Hp):Same H H:=fun _ _ h=>h
theorem Same.trans {H H1 H2:Hp} (a:Same H H1) (b:Same H1 H2):Same H H2:=fun c o h=>b c o (a c o h)
theorem Same.seq {K:PySem.W.Frag} {H H':Hp} {a:Addr} {xs:List V} (e:Same H H') (h:SqL K H a xs):SqL K H' a xs:=by
 rcases h with (h | ⟨o,h⟩) | h
 ·exact .inl (.inl (e _ _ h))
 ·exact .inl (.inr ⟨o,e _ _ h⟩)
 ·exact .inr h
section
variable {κ:Type} [DecidableEq κ]
end
end L2
namespace DL
open PySem L2
inductive D where
 | non | bl (b:Bool) | int (i:Int) | str (x:Str)
 | tup (xs:List D) | lst (xs:List D) | fz (xs:List D) | dct (ks:List Str) (vs:List D) | fd (ks:List Str) (vs:List D) | fo (o:Obj) (ks:List Str) (vs:List D)
mutual
def D.im:D→Bool
 | .tup xs=>D.ims xs
 | .lst _=>false
 | .fz xs=>D.ims xs
 | .dct _ _=>false
 | .fd _ xs=>D.ims xs
 | .fo _ _ xs=>D.ims xs
 | .non=>true
 | .bl _=>true
 | .int _=>true
 | .str _=>true
def D.ims:List D→Bool
 | []=>true
 | x :: r=>D.im x && D.ims r
end
def a4 (ks:List Str) (vs:List V):List (Key×V):=(ks.map Sum.inr).zip vs
def H0:Hp:=fun _=>none
def FzAt (K:PySem.W.Frag) (H:Hp) (a:Addr) (vs:List V):Prop:=(∃ o,H a=some (.frz o (.lst vs)))∨SqL K H0 a vs
mutual
def Rep (K:PySem.W.Frag) (M:Addr→Prop) (H:Hp):D→V→Prop
 | .non,v=>v=.non
 | .bl b,v=>v=.bl b
 | .int i,v=>v=.int i
 | .str x,v=>v=.str x
 | .tup ds,v=>∃ a vs,v=.ref a∧SqT K H a vs∧Reps K M H ds vs
 | .lst ds,v=>∃ a vs,v=.ref a∧¬ M a∧H a=some (.lst vs)∧Reps K M H ds vs
 | .fz ds,v=>∃ a vs,v=.ref a∧FzAt K H a vs∧Reps K M H ds vs
 | .dct ks ds,v=>∃ a vs,v=.ref a∧¬ M a∧H a=some (.dK (a4 ks vs))∧ks.length=ds.length∧Reps K M H ds vs
 | .fd ks ds,v=>∃ a vs o,v=.ref a∧H a=some (.frz o (.dK (a4 ks vs)))∧ks.length=ds.length∧Reps K M H ds vs
 | .fo o ks ds,v=>∃ a vs,v=.ref a∧H a=some (.frz o (.dK (a4 ks vs)))∧ks.length=ds.length∧Reps K M H ds vs
def Reps (K:PySem.W.Frag) (M:Addr→Prop) (H:Hp):List D→List V→Prop
 | [],vs=>vs=[]
 | d :: ds,vs=>∃ v r,vs=v :: r∧Rep K M H d v∧Reps K M H ds r
end
structure Kp (M:Addr→Prop) (H H':Hp):Prop where
 un:∀ b o,H b=some o→¬ M b→H' b=some o
 tu:∀ b xs,H b=some (.tup xs)→H' b=some (.tup xs)
 fr:∀ b o u,H b=some (.frz o u)→H' b=some (.frz o u)
theorem Kp.of_same {M:Addr→Prop} {H H':Hp} (h:Same H H'):Kp M H H':=⟨fun b o e _=>h b o e,fun b xs e=>h b _ e,fun b o u e=>h b _ e⟩
theorem Kp.refl {M:Addr→Prop} {H:Hp}:Kp M H H:=Kp.of_same (Same.refl H)
section
variable {K:PySem.W.Frag} {M M':Addr→Prop} {H H':Hp}
theorem SqT.kp {a:Addr} {vs:List V} (k:Kp M H H') (h:SqT K H a vs):SqT K H' a vs:=by
 rcases h with (h | ⟨o,h⟩) | h
 ·exact .inl (.inl (k.tu _ _ h))
 ·exact .inl (.inr ⟨o,k.fr _ _ _ h⟩)
 ·exact .inr h
theorem FzAt.kp {a:Addr} {vs:List V} (k:Kp M H H') (h:FzAt K H a vs):FzAt K H' a vs:=by
 rcases h with ⟨o,h⟩ | h
 ·exact .inl ⟨o,k.fr _ _ _ h⟩
 ·exact .inr h
theorem FzAt.seq {a:Addr} {vs:List V} (h:FzAt K H a vs):SqL K H a vs:=by
 rcases h with ⟨o,h⟩ | (h | ⟨o,h⟩) | h
 ·exact .inl (.inr ⟨o,h⟩)
 ·cases h
 ·cases h
 ·exact .inr h
mutual
theorem Rep.kp (k:Kp M H H'):∀ (d:D) (v:V),Rep K M H d v→Rep K M H' d v
 | .non,v,h=>by unfold Rep at h ⊢;exact h
 | .bl b,v,h=>by unfold Rep at h ⊢;exact h
 | .int i,v,h=>by unfold Rep at h ⊢;exact h
 | .str x,v,h=>by unfold Rep at h ⊢;exact h
 | .tup ds,v,h=>by
  unfold Rep at h ⊢
  obtain ⟨a,vs,e,q,r⟩:=h
  exact⟨a,vs,e,SqT.kp k q,Reps.kp k ds vs r⟩
 | .lst ds,v,h=>by
  unfold Rep at h ⊢
  obtain ⟨a,vs,e,n,q,r⟩:=h
  exact⟨a,vs,e,n,k.un _ _ q n,Reps.kp k ds vs r⟩
 | .fz ds,v,h=>by
  unfold Rep at h ⊢
  obtain ⟨a,vs,e,q,r⟩:=h
  exact⟨a,vs,e,q.kp k,Reps.kp k ds vs r⟩
 | .dct ks ds,v,h=>by
  unfold Rep at h ⊢
  obtain ⟨a,vs,e,n,q,l,r⟩:=h
  exact⟨a,vs,e,n,k.un _ _ q n,l,Reps.kp k ds vs r⟩
 | .fd ks ds,v,h=>by
  unfold Rep at h ⊢
  obtain ⟨a,vs,o,e,q,l,r⟩:=h
  exact⟨a,vs,o,e,k.fr _ _ _ q,l,Reps.kp k ds vs r⟩
 | .fo o ks ds,v,h=>by
  unfold Rep at h ⊢
  obtain ⟨a,vs,e,q,l,r⟩:=h
  exact⟨a,vs,e,k.fr _ _ _ q,l,Reps.kp k ds vs r⟩
theorem Reps.kp (k:Kp M H H'):∀ (ds:List D) (vs:List V),Reps K M H ds vs→Reps K M H' ds vs
 | [],vs,h=>by unfold Reps at h ⊢;exact h
 | d :: ds,vs,h=>by
  unfold Reps at h ⊢
  obtain ⟨v,r,e,q,s⟩:=h
  exact⟨v,r,e,Rep.kp k d v q,Reps.kp k ds r s⟩
end
mutual
theorem Rep.more (hM:∀ b,M' b→M b∨H b=none):∀ (d:D) (v:V),Rep K M H d v→Rep K M' H d v
 | .non,v,h=>by unfold Rep at h ⊢;exact h
 | .bl b,v,h=>by unfold Rep at h ⊢;exact h
 | .int i,v,h=>by unfold Rep at h ⊢;exact h
 | .str x,v,h=>by unfold Rep at h ⊢;exact h
 | .tup ds,v,h=>by
  unfold Rep at h ⊢
  obtain ⟨a,vs,e,q,r⟩:=h
  exact⟨a,vs,e,q,Reps.more hM ds vs r⟩
 | .lst ds,v,h=>by
  unfold Rep at h ⊢
  obtain ⟨a,vs,e,n,q,r⟩:=h
  exact⟨a,vs,e,fun z=>(hM _ z).elim n (fun e=>by rw [q] at e;cases e),q,Reps.more hM ds vs r⟩
 | .fz ds,v,h=>by
  unfold Rep at h ⊢
  obtain ⟨a,vs,e,q,r⟩:=h
  exact⟨a,vs,e,q,Reps.more hM ds vs r⟩
 | .dct ks ds,v,h=>by
  unfold Rep at h ⊢
  obtain ⟨a,vs,e,n,q,l,r⟩:=h
  exact⟨a,vs,e,fun z=>(hM _ z).elim n (fun e=>by rw [q] at e;cases e),q,l,Reps.more hM ds vs r⟩
 | .fd ks ds,v,h=>by
  unfold Rep at h ⊢
  obtain ⟨a,vs,o,e,q,l,r⟩:=h
  exact⟨a,vs,o,e,q,l,Reps.more hM ds vs r⟩
 | .fo o ks ds,v,h=>by
  unfold Rep at h ⊢
  obtain ⟨a,vs,e,q,l,r⟩:=h
  exact⟨a,vs,e,q,l,Reps.more hM ds vs r⟩
theorem Reps.more (hM:∀ b,M' b→M b∨H b=none):∀ (ds:List D) (vs:List V),Reps K M H ds vs→Reps K M' H ds vs
 | [],vs,h=>by unfold Reps at h ⊢;exact h
 | d :: ds,vs,h=>by
  unfold Reps at h ⊢
  obtain ⟨v,r,e,q,s⟩:=h
  exact⟨v,r,e,Rep.more hM d v q,Reps.more hM ds r s⟩
end
mutual
theorem Rep.im:∀ (d:D) (v:V),d.im=true→Rep K M H d v→Rep K M' H d v
 | .non,v,_,h=>by unfold Rep at h ⊢;exact h
 | .bl b,v,_,h=>by unfold Rep at h ⊢;exact h
 | .int i,v,_,h=>by unfold Rep at h ⊢;exact h
 | .str x,v,_,h=>by unfold Rep at h ⊢;exact h
 | .tup ds,v,i,h=>by
  unfold Rep at h ⊢
  obtain ⟨a,vs,e,q,r⟩:=h
  unfold D.im at i
  exact⟨a,vs,e,q,Reps.im ds vs i r⟩
 | .lst ds,v,i,h=>by unfold D.im at i;cases i
 | .fz ds,v,i,h=>by
  unfold Rep at h ⊢
  obtain ⟨a,vs,e,q,r⟩:=h
  unfold D.im at i
  exact⟨a,vs,e,q,Reps.im ds vs i r⟩
 | .dct ks ds,v,i,h=>by unfold D.im at i;cases i
 | .fd ks ds,v,i,h=>by
  unfold Rep at h ⊢
  obtain ⟨a,vs,o,e,q,l,r⟩:=h
  unfold D.im at i
  exact⟨a,vs,o,e,q,l,Reps.im ds vs i r⟩
 | .fo o ks ds,v,i,h=>by
  unfold Rep at h ⊢
  obtain ⟨a,vs,e,q,l,r⟩:=h
  unfold D.im at i
  exact⟨a,vs,e,q,l,Reps.im ds vs i r⟩
theorem Reps.im:∀ (ds:List D) (vs:List V),D.ims ds=true→Reps K M H ds vs→Reps K M' H ds vs
 | [],vs,_,h=>by unfold Reps at h ⊢;exact h
 | d :: ds,vs,i,h=>by
  unfold Reps at h ⊢
  obtain ⟨v,r,e,q,s⟩:=h
  unfold D.ims at i
  obtain ⟨i1,i2⟩:=Dh.mp i
  exact⟨v,r,e,Rep.im d v i1 q,Reps.im ds r i2 s⟩
end
theorem Reps.length:∀ (ds:List D) (vs:List V),Reps K M H ds vs→ds.length=vs.length
 | [],vs,h=>by unfold Reps at h;subst h;rfl
 | d :: ds,vs,h=>by
  unfold Reps at h
  obtain ⟨v,r,rfl,q,s⟩:=h
  rw [CZ,CZ,Reps.length ds r s]
theorem Reps.get:∀ (ds:List D) (vs:List V),Reps K M H ds vs→∀ (i:Nat) (d:D),ds[i]?=some d→∃ v,vs[i]?=some v∧Rep K M H d v
 | [],vs,h,i,d,e=>by simp at e
 | d :: ds,vs,h,i,d',e=>by
  unfold Reps at h
  obtain ⟨v,r,rfl,q,s⟩:=h
  cases i with
  | zero=>simp at e;subst e;exact⟨v,rfl,q⟩
  | succ i=>exact Reps.get ds r s i d' (by simpa using e)
theorem Reps.of:∀ (ds:List D) (vs:List V),ds.length=vs.length→(∀ (i:Nat) d v,ds[i]?=some d→vs[i]?=some v→Rep K M H d v)→Reps K M H ds vs
 | [],vs,l,_=>by unfold Reps;exact List.length_eq_zero_iff.mp l.symm
 | d :: ds,[],l,_=>by cases l
 | d :: ds,v :: vs,l,h=>by
  unfold Reps
  exact⟨v,vs,rfl,h 0 d v rfl rfl,Reps.of ds vs (Nat.succ.inj l) fun i d' v' e e'=>h (i + 1) d' v' (by simpa using e) (by simpa using e')⟩
theorem Reps.append:∀ (ds es:List D) (vs ws:List V),Reps K M H ds vs→Reps K M H es ws→Reps K M H (ds++es) (vs++ws)
 | [],es,vs,ws,h,k=>by unfold Reps at h;subst h;exact k
 | d :: ds,es,vs,ws,h,k=>by
  unfold Reps at h
  obtain ⟨v,r,rfl,q,s⟩:=h
  show Reps K M H (d :: (ds++es)) (v :: (r++ws))
  unfold Reps
  exact⟨v,r++ws,rfl,q,Reps.append ds es r ws s k⟩
theorem Reps.one {d:D} {v:V} (h:Rep K M H d v):Reps K M H [d] [v]:=by
 unfold Reps
 exact⟨v,[],rfl,h,by unfold Reps;rfl⟩
theorem Reps.nil:Reps K M H [] []:=by unfold Reps;rfl
theorem Reps.cons {d:D} {v:V} {ds:List D} {vs:List V} (h:Rep K M H d v) (r:Reps K M H ds vs):Reps K M H (d :: ds) (v :: vs):=by
 unfold Reps
 exact⟨v,vs,rfl,h,r⟩
theorem Reps.take:∀ (n:Nat) (ds:List D) (vs:List V),Reps K M H ds vs→Reps K M H (ds.take n) (vs.take n)
 | 0,ds,vs,h=>by simpa using Reps.nil
 | n + 1,[],vs,h=>by unfold Reps at h;subst h;simpa using Reps.nil
 | n + 1,d :: ds,vs,h=>by
  unfold Reps at h
  obtain ⟨v,r,rfl,q,s⟩:=h
  exact Reps.cons q (Reps.take n ds r s)
theorem Reps.drop:∀ (n:Nat) (ds:List D) (vs:List V),Reps K M H ds vs→Reps K M H (ds.drop n) (vs.drop n)
 | 0,ds,vs,h=>h
 | n + 1,[],vs,h=>by unfold Reps at h;subst h;simpa using Reps.nil
 | n + 1,d :: ds,vs,h=>by
  unfold Reps at h
  obtain ⟨v,r,rfl,q,s⟩:=h
  exact Reps.drop n ds r s
theorem Reps.ints (ns:List Int):Reps K M H (ns.map D.int) (ns.map V.int):=by
 induction ns with
 | nil=>exact Reps.nil
 | cons n r ih=>exact Reps.cons (by unfold Rep;rfl) ih
end
inductive Sl where
 | no | dat (d:D) | own (a:Addr) (d:D)
structure Gf where
 M0:Addr→Prop
 H0:Hp
 Pm:Addr→Prop
def bH (K:PySem.W.Frag) (M:Addr→Prop) (H:Hp) (a:Addr):D→Prop
 | .lst ds=>∃ vs,H a=some (.lst vs)∧Reps K M H ds vs
 | .dct ks ds=>∃ vs,H a=some (.dK (a4 ks vs))∧ks.length=ds.length∧Reps K M H ds vs
 | _=>False
structure Sx (K:PySem.W.Frag) (G:Gf) (A:Addr→Prop) (δ:List Sl) (P:List (D×V)) (σ:St) (H:Hp):Prop where
 old:∀ b o,G.H0 b=some o→¬ G.Pm b→H b=some o
 stay:∀ b,G.H0 b≠none→H b≠none
 m0:∀ b,G.M0 b→G.H0 b≠none
 pm:∀ b,G.Pm b→G.H0 b≠none∧¬ G.M0 b
 new:∀ b,A b→G.H0 b=none∨G.Pm b
 thr:∀ b,A b→H b≠none
 len:δ.length=σ.length
 dat:∀ (i:Nat) d,δ[i]?=some (.dat d)→∃ v,σ[i]?=some (some v)∧Rep K (fun b=>G.M0 b∨A b) H d v
 own:∀ (i:Nat) a d,δ[i]?=some (.own a d)→σ[i]?=some (some (.ref a))∧A a∧bH K (fun b=>G.M0 b∨A b) H a d
 inj:∀ (i j:Nat) a d e,δ[i]?=some (.own a d)→δ[j]?=some (.own a e)→i=j
 pnd:∀ p∈P,Rep K (fun b=>G.M0 b∨A b) H p.1 p.2
def S (K:PySem.W.Frag) (G:Gf) (δ:List Sl) (P:List (D×V)) (σ:St) (H:Hp):Prop:=∃ A,Sx K G A δ P σ H
inductive a6 (K:PySem.W.Frag) (f:List D→(D→Prop)→Prop) (vs:List V) (H:Hp) (Q:VK):Prop
 | mk (M:Addr→Prop) (ds:List D) (R:D→Prop) (m:∀ b,M b→H b≠none) (rs:Reps K M H ds vs) (h:f ds R) (k:∀ d,R d→∀ v H',Same H H'→Rep K M H' d v→Q v H')
section
variable {K:PySem.W.Frag} {G:Gf} {A:Addr→Prop} {δ:List Sl} {P P':List (D×V)} {σ:St} {H H':Hp}
theorem bH.kp {M:Addr→Prop} {a:Addr} {d:D} (k:Kp M H H') (e:H' a=H a) (h:bH K M H a d):bH K M H' a d:=by
 cases d with
 | lst ds =>
  obtain ⟨vs,q,r⟩:=h
  exact⟨vs,e.trans q,Reps.kp k _ _ r⟩
 | dct ks ds =>
  obtain ⟨vs,q,l,r⟩:=h
  exact⟨vs,e.trans q,l,Reps.kp k _ _ r⟩
 | _=>exact h.elim
theorem bH.more {M M':Addr→Prop} {a:Addr} {d:D} (hM:∀ b,M' b→M b∨H b=none) (h:bH K M H a d):bH K M' H a d:=by
 cases d with
 | lst ds =>
  obtain ⟨vs,q,r⟩:=h
  exact⟨vs,q,Reps.more hM _ _ r⟩
 | dct ks ds =>
  obtain ⟨vs,q,l,r⟩:=h
  exact⟨vs,q,l,Reps.more hM _ _ r⟩
 | _=>exact h.elim
theorem Sx.sub (s:Sx K G A δ P σ H) (h:∀ p∈P',p∈P):Sx K G A δ P' σ H :=
 ⟨s.old,s.stay,s.m0,s.pm,s.new,s.thr,s.len,s.dat,s.own,s.inj,fun p hp=>s.pnd p (h p hp)⟩
theorem S.sub (s:S K G δ P σ H) (h:∀ p∈P',p∈P):S K G δ P' σ H:=let ⟨A,x⟩:=s;⟨A,x.sub h⟩
theorem Sx.same (s:Sx K G A δ P σ H) (h:Same H H'):Sx K G A δ P σ H' where
 old:=fun b o e n=>h b o (s.old b o e n)
 stay:=fun b e=>by
  cases q:H b with
  | none=>exact absurd q (s.stay b e)
  | some o=>rw [h b o q];exact fun z=>nomatch z
 m0:=s.m0
 pm:=s.pm
 new:=s.new
 thr:=fun b e=>by
  cases q:H b with
  | none=>exact absurd q (s.thr b e)
  | some o=>rw [h b o q];exact fun z=>nomatch z
 len:=s.len
 dat:=fun i d e=>let ⟨v,q,r⟩:=s.dat i d e;⟨v,q,Rep.kp (Kp.of_same h) _ _ r⟩
 own:=fun i a d e=>by
  obtain ⟨q,a1,o⟩:=s.own i a d e
  refine⟨q,a1,bH.kp (Kp.of_same h) ?_ o⟩
  cases z:H a with
  | none=>exact absurd z (s.thr a a1)
  | some o=>exact h a o z
 inj:=s.inj
 pnd:=fun p hp=>Rep.kp (Kp.of_same h) _ _ (s.pnd p hp)
theorem Sx.push (s:Sx K G A δ P σ H) {d:D} {v:V} (h:Rep K (fun b=>G.M0 b∨A b) H d v):Sx K G A δ ((d,v) :: P) σ H :=
 ⟨s.old,s.stay,s.m0,s.pm,s.new,s.thr,s.len,s.dat,s.own,s.inj,fun p hp=>by
  rcases CQ.mp hp with rfl | hp
  ·exact h
  ·exact s.pnd p hp⟩
theorem Sx.mem (s:Sx K G A δ P σ H):∀ b,(G.M0 b∨A b)→H b≠none:=fun b h=>h.elim (fun z=>s.stay b (s.m0 b z)) fun z=>s.thr b z
theorem Sx.reps (s:Sx K G A δ P σ H):∀ (ds:List D) (vs:List V),ds.length=vs.length→(∀ p∈ds.zip vs,p∈P)→Reps K (fun b=>G.M0 b∨A b) H ds vs
 | [],[],_,_=>Reps.nil
 | d :: ds,v :: vs,l,h=>Reps.cons (s.pnd (d,v) (h _ (CP ..))) (Sx.reps s ds vs (Nat.succ.inj l) fun p hp=>h p (CL _ hp))
theorem S.pure {f:List D→(D→Prop)→Prop} {ds:List D} {vs:List V} {R:D→Prop} {Q:VK} (s:S K G δ P σ H) (hl:ds.length=vs.length) (hp:∀ p∈ds.zip vs,p∈P) (hs:∀ p∈P',p∈P) (hf:f ds R)
  (h:∀ d,R d→∀ v H',S K G δ ((d,v) :: P') σ H'→Q v H'):a6 K f vs H Q:=by
 obtain ⟨A,x⟩:=s
 refine⟨fun b=>G.M0 b∨A b,ds,R,x.mem,x.reps ds vs hl hp,hf,fun d r v H' sm rp=>h d r v H' ⟨A,?_⟩⟩
 exact ((x.same sm).sub hs).push rp
theorem Sx.set {i:Nat} {d:D} {v:V} (s:Sx K G A δ P σ H) (hp:(d,v)∈P) (hs:∀ p∈P',p∈P):Sx K G A (δ.set i (.dat d)) P' (σ.set i (some v)) H where
 old:=s.old
 stay:=s.stay
 m0:=s.m0
 pm:=s.pm
 new:=s.new
 thr:=s.thr
 len:=by rw [List.length_set,List.length_set,s.len]
 dat:=fun j d' e=>by
  by_cases hij:i=j
  ·subst hij
   by_cases hl:i < δ.length
   ·rw [List.getElem?_set_self hl] at e
    cases e
    exact⟨v,by rw [List.getElem?_set_self (by rw [← s.len];exact hl)],s.pnd _ hp⟩
   ·rw [List.getElem?_eq_none (by rw [List.length_set];omega)] at e
    cases e
  ·rw [List.getElem?_set_ne hij] at e
   obtain ⟨v',q,r⟩:=s.dat j d' e
   exact⟨v',by rw [List.getElem?_set_ne hij];exact q,r⟩
 own:=fun j a d' e=>by
  by_cases hij:i=j
  ·subst hij
   by_cases hl:i < δ.length
   ·rw [List.getElem?_set_self hl] at e
    cases e
   ·rw [List.getElem?_eq_none (by rw [List.length_set];omega)] at e
    cases e
  ·rw [List.getElem?_set_ne hij] at e
   obtain ⟨q,r⟩:=s.own j a d' e
   exact⟨by rw [List.getElem?_set_ne hij];exact q,r⟩
 inj:=fun j k a d' e' h1 h2=>by
  have hj:δ[j]?=some (.own a d'):=by
   by_cases hij:i=j
   ·subst hij
    by_cases hl:i < δ.length
    ·rw [List.getElem?_set_self hl] at h1;cases h1
    ·rw [List.getElem?_eq_none (by rw [List.length_set];omega)] at h1;cases h1
   ·rw [List.getElem?_set_ne hij] at h1;exact h1
  have hk:δ[k]?=some (.own a e'):=by
   by_cases hij:i=k
   ·subst hij
    by_cases hl:i < δ.length
    ·rw [List.getElem?_set_self hl] at h2;cases h2
    ·rw [List.getElem?_eq_none (by rw [List.length_set];omega)] at h2;cases h2
   ·rw [List.getElem?_set_ne hij] at h2;exact h2
  exact s.inj j k a d' e' hj hk
 pnd:=fun p h=>s.pnd p (hs p h)
theorem S.set {i:Nat} {d:D} {v:V} (s:S K G δ P σ H) (hp:(d,v)∈P) (hs:∀ p∈P',p∈P):S K G (δ.set i (.dat d)) P' (σ.set i (some v)) H:=let ⟨A,x⟩:=s;⟨A,x.set hp hs⟩
end
end DL
namespace DL
open PySem L2
section
variable {K:PySem.W.Frag} {G:Gf} {A:Addr→Prop} {δ:List Sl} {P P':List (D×V)} {σ:St} {H H':Hp}
theorem a7 {α:Type} {l:List α} {i j:Nat} {x y:α} (h:(l.set i x)[j]?=some y):(i=j∧x=y∧i < l.length)∨(i≠j∧l[j]?=some y):=by
 by_cases e:i=j
 ·subst e
  by_cases hl:i < l.length
  ·rw [List.getElem?_set_self hl] at h
   exact .inl ⟨rfl,Option.some.inj h,hl⟩
  ·rw [List.getElem?_eq_none (by rw [List.length_set];omega)] at h
   cases h
 ·rw [List.getElem?_set_ne e] at h
  exact .inr ⟨e,h⟩
theorem Sx.claim {i:Nat} {a:Addr} {d:D} (s:Sx K G A δ P σ H) (hn:H a=none) (hs:Same H H') (ho:bH K (fun b=>(G.M0 b∨A b)∨b=a) H' a d) (hP:∀ p∈P',p∈P) :
  Sx K G (fun b=>A b∨b=a) (δ.set i (.own a d)) P' (σ.set i (some (.ref a))) H':=by
 have x:=s.same hs
 have hM:∀ b,(G.M0 b∨(A b∨b=a))→(G.M0 b∨A b)∨H b=none:=fun b h=>by
  rcases h with h | h | h
  ·exact .inl (.inl h)
  ·exact .inl (.inr h)
  ·subst h;exact .inr hn
 have hM2:∀ b,(G.M0 b∨(A b∨b=a))→((G.M0 b∨A b)∨b=a)∨H' b=none:=fun b h=>by
  rcases h with h | h | h
  ·exact .inl (.inl (.inl h))
  ·exact .inl (.inl (.inr h))
  ·exact .inl (.inr h)
 have up:∀ d v,Rep K (fun b=>G.M0 b∨A b) H d v→Rep K (fun b=>G.M0 b∨(A b∨b=a)) H' d v:=fun d v r=>Rep.kp (Kp.of_same hs) _ _ (Rep.more hM _ _ r)
 have na:∀ b,A b→b≠a:=fun b h e=>s.thr b h (by rw [e];exact hn)
 have h0:G.H0 a=none:=by
  cases q:G.H0 a with
  | none=>rfl
  | some o=>exact absurd hn (s.stay a (by rw [q];exact fun z=>nomatch z))
 have hne:H' a≠none:=by
  cases d with
  | lst ds=>obtain ⟨vs,q,_⟩:=ho;rw [q];exact fun z=>nomatch z
  | dct ks ds=>obtain ⟨vs,q,_⟩:=ho;rw [q];exact fun z=>nomatch z
  | _=>exact ho.elim
 refine⟨x.old,x.stay,x.m0,x.pm,fun b h=>h.elim (s.new b) fun e=>.inl (by rw [e];exact h0),fun b h=>h.elim (x.thr b) fun e=>by rw [e];exact hne,by rw [List.length_set,List.length_set,s.len],fun j d' e=>?_,fun j b d' e=>?_,
  fun j k b d' e' h1 h2=>?_,fun p hp=>up _ _ (s.pnd p (hP p hp))⟩
 ·rcases a7 e with ⟨_,z,_⟩ | ⟨hij,e⟩
  ·cases z
  ·obtain ⟨v,q,r⟩:=s.dat j d' e
   exact⟨v,by rw [List.getElem?_set_ne hij];exact q,up _ _ r⟩
 ·rcases a7 e with ⟨hij,z,hl⟩ | ⟨hij,e⟩
  ·cases z
   subst hij
   exact⟨by rw [List.getElem?_set_self (by rw [← s.len];exact hl)],.inr rfl,bH.more hM2 ho⟩
  ·obtain ⟨q,r,o⟩:=s.own j b d' e
   refine⟨by rw [List.getElem?_set_ne hij];exact q,.inl r,bH.kp (Kp.of_same hs) ?_ (bH.more hM o)⟩
   cases z:H b with
   | none=>exact absurd z (s.thr b r)
   | some o'=>exact hs b o' z
 ·rcases a7 h1 with ⟨hij,z,hl⟩ | ⟨hij,e⟩
  ·cases z
   rcases a7 h2 with ⟨hik,_,_⟩ | ⟨hik,e2⟩
   ·rw [← hij,← hik]
   ·exact absurd rfl (na _ (s.own k _ _ e2).2.1)
  ·rcases a7 h2 with ⟨hik,z,_⟩ | ⟨hik,e2⟩
   ·cases z
    exact absurd rfl (na _ (s.own j _ _ e).2.1)
   ·exact s.inj j k b d' e' e e2
theorem Sx.change {i:Nat} {a:Addr} {d d':D} (s:Sx K G A δ P σ H) (hi:δ[i]?=some (.own a d)) (hk:∀ b o,b≠a→H b=some o→H' b=some o) (ho:bH K (fun b=>G.M0 b∨A b) H' a d') :
  Sx K G A (δ.set i (.own a d')) P σ H':=by
 obtain ⟨si,ai,oi⟩:=s.own i a d hi
 have hmu:(∀ xs,H a≠some (.tup xs))∧∀ o u,H a≠some (.frz o u):=by
  cases d with
  | lst ds=>obtain ⟨vs,q,_⟩:=oi;rw [q];exact⟨fun _ z=>(nomatch z),fun _ _ z=>(nomatch z)⟩
  | dct ks ds=>obtain ⟨vs,q,_⟩:=oi;rw [q];exact⟨fun _ z=>(nomatch z),fun _ _ z=>(nomatch z)⟩
  | _=>exact oi.elim
 have hne:H' a≠none:=by
  cases d' with
  | lst ds=>obtain ⟨vs,q,_⟩:=ho;rw [q];exact fun z=>nomatch z
  | dct ks ds=>obtain ⟨vs,q,_⟩:=ho;rw [q];exact fun z=>nomatch z
  | _=>exact ho.elim
 have kp:Kp (fun b=>G.M0 b∨A b) H H':=⟨fun b o e n=>hk b o (fun z=>n (.inr (by rw [z];exact ai))) e,fun b xs e=>hk b _ (fun z=>hmu.1 xs (by rw [← z];exact e)) e,
  fun b o u e=>hk b _ (fun z=>hmu.2 o u (by rw [← z];exact e)) e⟩
 have stay:∀ b,H b≠none→H' b≠none:=fun b e=>by
  by_cases z:b=a
  ·rw [z];exact hne
  ·cases q:H b with
   | none=>exact absurd q e
   | some o=>rw [hk b o z q];exact fun z=>nomatch z
 have na:∀ b o,G.H0 b=some o→¬ G.Pm b→b≠a:=fun b o e n z=>(s.new a ai).elim (fun q=>by rw [z] at e;rw [e] at q;cases q) fun q=>n (by rw [z];exact q)
 refine⟨fun b o e n=>hk b o (na b o e n) (s.old b o e n),fun b e=>stay b (s.stay b e),s.m0,s.pm,s.new,fun b e=>stay b (s.thr b e),by rw [List.length_set,s.len],fun j x e=>?_,fun j b x e=>?_,fun j k b x y h1 h2=>?_,
  fun p hp=>Rep.kp kp _ _ (s.pnd p hp)⟩
 ·rcases a7 e with ⟨_,z,_⟩ | ⟨hij,e⟩
  ·cases z
  ·obtain ⟨v,q,r⟩:=s.dat j x e
   exact⟨v,q,Rep.kp kp _ _ r⟩
 ·rcases a7 e with ⟨hij,z,hl⟩ | ⟨hij,e9⟩
  ·cases z
   subst hij
   exact⟨si,ai,ho⟩
  ·clear e
   obtain ⟨q,r,o⟩:=s.own j b x e9
   have hb:b≠a:=fun z=>by rw [z] at e9;exact hij (s.inj _ _ _ _ _ hi e9)
   refine⟨q,r,bH.kp kp ?_ o⟩
   cases z:H b with
   | none=>exact absurd z (s.thr b r)
   | some o'=>exact hk b o' hb z
 ·have hj:∃ x',δ[j]?=some (.own b x'):=by
   rcases a7 h1 with ⟨hij,z,hl⟩ | ⟨hij,e⟩
   ·cases z;subst hij;exact⟨_,hi⟩
   ·exact⟨_,e⟩
  have hk':∃ x',δ[k]?=some (.own b x'):=by
   rcases a7 h2 with ⟨hij,z,hl⟩ | ⟨hij,e⟩
   ·cases z;subst hij;exact⟨_,hi⟩
   ·exact⟨_,e⟩
  obtain ⟨x1,e1⟩:=hj
  obtain ⟨x2,e2⟩:=hk'
  exact s.inj j k b x1 x2 e1 e2
theorem bH.rep {M M':Addr→Prop} {a:Addr} {d:D} (h:bH K M H a d) (n:¬ M' a) (hM:∀ b,M' b→M b):Rep K M' H d (.ref a):=by
 cases d with
 | lst ds =>
  obtain ⟨vs,q,r⟩:=h
  unfold Rep
  exact⟨a,vs,rfl,n,q,Reps.more (fun b z=>.inl (hM b z)) _ _ r⟩
 | dct ks ds =>
  obtain ⟨vs,q,l,r⟩:=h
  unfold Rep
  exact⟨a,vs,rfl,n,q,l,Reps.more (fun b z=>.inl (hM b z)) _ _ r⟩
 | _=>exact h.elim
theorem Sx.freeze {i:Nat} {a:Addr} {d:D} (s:Sx K G A δ P σ H) (hi:δ[i]?=some (.own a d)) (hp:¬ G.M0 a):Sx K G (fun b=>A b∧b≠a) (δ.set i (.dat d)) P σ H:=by
 obtain ⟨si,ai,oi⟩:=s.own i a d hi
 have hM:∀ b,(G.M0 b∨(A b∧b≠a))→(G.M0 b∨A b):=fun b h=>h.elim .inl fun z=>.inr z.1
 have dn:∀ d v,Rep K (fun b=>G.M0 b∨A b) H d v→Rep K (fun b=>G.M0 b∨(A b∧b≠a)) H d v:=fun d v r=>Rep.more (fun b z=>.inl (hM b z)) _ _ r
 refine⟨s.old,s.stay,s.m0,s.pm,fun b h=>s.new b h.1,fun b h=>s.thr b h.1,by rw [List.length_set,s.len],fun j x e=>?_,fun j b x e=>?_,fun j k b x y h1 h2=>?_,fun p hp=>dn _ _ (s.pnd p hp)⟩
 ·rcases a7 e with ⟨hij,z,_⟩ | ⟨hij,e⟩
  ·cases z;subst hij
   exact⟨.ref a,si,oi.rep (fun z=>z.elim hp fun q=>q.2 rfl) hM⟩
  ·obtain ⟨v,q,r⟩:=s.dat j x e
   exact⟨v,q,dn _ _ r⟩
 ·rcases a7 e with ⟨_,z,_⟩ | ⟨hij,e9⟩
  ·cases z
  ·clear e
   obtain ⟨q,r,o⟩:=s.own j b x e9
   have hb:b≠a:=fun z=>by rw [z] at e9;exact hij (s.inj _ _ _ _ _ hi e9)
   exact⟨q,⟨r,hb⟩,bH.more (fun b z=>.inl (hM b z)) o⟩
 ·rcases a7 h1 with ⟨_,z,_⟩ | ⟨_,e1⟩
  ·cases z
  ·rcases a7 h2 with ⟨_,z,_⟩ | ⟨_,e2⟩
   ·cases z
   ·exact s.inj j k b x y e1 e2
end
end DL
namespace DL
open PySem PySem.Spec PyProof.Rows L2
inductive W where
 | d (x:D) | o (i:Nat)
abbrev En:=List Sl
abbrev TDE:=En→(W→En→Prop)→Prop
abbrev TDA:=En→(List D→En→Prop)→Prop
abbrev TDT:=En→(Bool→En→Prop)→Prop
structure gh where
 nx:En→Prop
 rt:D→En→Prop
 bk:En→Prop:=fun _=>False
 ct:En→Prop:=fun _=>False
 ro:D→Prop:=fun _=>False
 tp:Prop:=False
abbrev TDS:=gh→En→Prop
abbrev TDG:=D→En→(En→Prop)→Prop
abbrev TDGs:=List D→En→(En→Prop)→Prop
def wd (R:D→En→Prop):W→En→Prop
 | .d x,δ=>R x δ
 | .o _,_=>False
inductive Up (K:PySem.W.Frag) (t:TDE) (σ:L2.St) (H:Hp) (Q:VK):Prop
 | mk (G:Gf) (δ:En) (P:List (D×V)) (R:W→En→Prop) (s:S K G δ P σ H) (h:t δ R) (k:(∀ x δ',R (.d x) δ'→∀ v H',S K G δ' ((x,v) :: P) σ H'→Q v H')∧(∀ i δ',R (.o i) δ'→∀ a d H',S K G δ' P σ H'→δ'[i]?=some (.own a d)→Q (.ref a) H'))
def up (K:PySem.W.Frag) (t:TDE):TE:=Up K t
inductive UpA (K:PySem.W.Frag) (t:TDA) (σ:L2.St) (H:Hp) (Q:List V→Hp→Prop):Prop
 | mk (G:Gf) (δ:En) (P:List (D×V)) (R:List D→En→Prop) (s:S K G δ P σ H) (h:t δ R) (k:∀ ds δ',R ds δ'→∀ vs H',ds.length=vs.length→S K G δ' (ds.zip vs++P) σ H'→Q vs H')
def upA (K:PySem.W.Frag) (t:TDA):TA:=UpA K t
inductive UpT (K:PySem.W.Frag) (t:TDT) (σ:L2.St) (H:Hp) (Q:Bool→Hp→Prop):Prop
 | mk (G:Gf) (δ:En) (P:List (D×V)) (R:Bool→En→Prop) (s:S K G δ P σ H) (h:t δ R) (k:∀ b δ',R b δ'→∀ H',S K G δ' P σ H'→Q b H')
def upT (K:PySem.W.Frag) (t:TDT):TT:=UpT K t
inductive UpG (K:PySem.W.Frag) (t:TDG) (v:V) (σ:L2.St) (H:Hp) (Q:L2.St→Hp→Prop):Prop
 | mk (G:Gf) (δ:En) (P:List (D×V)) (d:D) (R:En→Prop) (s:S K G δ ((d,v) :: P) σ H) (h:t d δ R) (k:∀ δ',R δ'→∀ σ' H',S K G δ' P σ' H'→Q σ' H')
def upG (K:PySem.W.Frag) (t:TDG):TG:=UpG K t
inductive UpGs (K:PySem.W.Frag) (t:TDGs) (vs:List V) (σ:L2.St) (H:Hp) (Q:L2.St→Hp→Prop):Prop
 | mk (G:Gf) (δ:En) (P:List (D×V)) (ds:List D) (R:En→Prop) (hl:ds.length=vs.length) (s:S K G δ (ds.zip vs++P) σ H) (h:t ds δ R) (k:∀ δ',R δ'→∀ σ' H',S K G δ' P σ' H'→Q σ' H')
def upGs (K:PySem.W.Frag) (t:TDGs):TGs:=UpGs K t
def wx (K:PySem.W.Frag) (G:Gf) (H':Hp) (a:Addr) (d:D):Prop:=(∀ b o,G.H0 b=some o→¬ G.Pm b→H' b=some o)∧(G.H0 a=none∨G.Pm a)∧¬ G.M0 a∧bH K (fun b=>G.M0 b∨b=a) H' a d
inductive UpS (K:PySem.W.Frag) (t:TDS) (E:Ends) (σ:L2.St) (H:Hp):Prop
 | mk (G:Gf) (δ:En) (P:List (D×V)) (R:gh) (s:S K G δ P σ H) (h:t R δ) (k:(∀ δ',R.nx δ'→∀ σ' H',S K G δ' P σ' H'→E.nx σ' H')∧((∀ d δ',R.rt d δ'→∀ v σ' H',S K G δ' ((d,v) :: P) σ' H'→E.rt v H')∧∀ d,R.ro d→∀ a H',wx K G H' a d→E.rt (.ref a) H') ∧
 (∀ δ',R.bk δ'→∀ σ' H',S K G δ' P σ' H'→E.bk σ' H')∧(∀ δ',R.ct δ'→∀ σ' H',S K G δ' P σ' H'→E.ct σ' H')∧(R.tp→P=[]∧∀ b o,G.H0 b=some o→∃ ob xs,o=.frz ob (.lst xs)))
def upS (K:PySem.W.Frag) (t:TDS):TS:=UpS K t
def DE (X:Cx) (e:Expr) (t:TDE):Prop:=PE X e (up X.K t)
def DA (X:Cx) (es:List Expr) (t:TDA):Prop:=PA X es (upA X.K t)
def DT (X:Cx) (e:Expr) (t:TDT):Prop:=PT X e (upT X.K t)
def DW (X:Cx) (e:Expr) (t:TDT):Prop:=PW X e (upT X.K t)
def DG (X:Cx) (e:Expr) (t:TDG):Prop:=PG X e (upG X.K t)
def DGs (X:Cx) (e:List Expr) (t:TDGs):Prop:=PGs X e (upGs X.K t)
def DS (X:Cx) (st:Stmt) (t:TDS):Prop:=PS X st (upS X.K t)
def DSs (X:Cx) (st:List Stmt) (t:TDS):Prop:=PSs X st (upS X.K t)
section
variable {X:Cx} {e:Expr} {pos:Pos}
theorem PE.imp {t t':TE} (h:PE X e t) (i:∀ σ H Q,t' σ H Q→t σ H Q):PE X e t':=fun pins s σ H Q I q=>h pins s σ H Q I (i σ H Q q)
theorem PT.imp {t t':TT} (h:PT X e t) (i:∀ σ H Q,t' σ H Q→t σ H Q):PT X e t':=fun pins s σ H Q I q=>h pins s σ H Q I (i σ H Q q)
theorem PW.imp {t t':TT} (h:PW X e t) (i:∀ σ H Q,t' σ H Q→t σ H Q):PW X e t':=fun wh pins s σ H Q I q=>h wh pins s σ H Q I (i σ H Q q)
theorem PA.imp {es:List Expr} {t t':TA} (h:PA X es t) (i:∀ σ H Q,t' σ H Q→t σ H Q):PA X es t':=fun p pins s σ H Q I q=>h p pins s σ H Q I (i σ H Q q)
theorem PS.imp {st:Stmt} {t t':TS} (h:PS X st t) (i:∀ E σ H,t' E σ H→t E σ H):PS X st t':=fun pins s σ H D I q=>h pins s σ H D I (i D σ H q)
theorem PSs.imp {st:List Stmt} {t t':TS} (h:PSs X st t) (i:∀ E σ H,t' E σ H→t E σ H):PSs X st t':=fun pins s σ H D I q=>h pins s σ H D I (i D σ H q)
theorem PG.imp {t t':TG} (h:PG X e t) (i:∀ v σ H Q,t' v σ H Q→t v σ H Q):PG X e t':=fun pins s σ H v u Q I r q=>h pins s σ H v u Q I r (i v σ H Q q)
theorem PGs.imp {es:List Expr} {t t':TGs} (h:PGs X es t) (i:∀ v σ H Q,t' v σ H Q→t v σ H Q):PGs X es t':=fun pins s σ H v u Q I r q=>h pins s σ H v u Q I r (i v σ H Q q)
theorem OpR.imp {f:Value→Value→Sem Value} {r r':R2} (h:OpR X f r) (i:∀ x y H Q,r' x y H Q→r x y H Q):OpR X f r':=fun pins s σ H x y v u Q I rx ry q=>h pins s σ H x y v u Q I rx ry (i x y H Q q)
theorem UnR.imp {f:Value→Sem Value} {r r':V→Hp→VK→Prop} (h:UnR X f r) (i:∀ x H Q,r' x H Q→r x H Q):UnR X f r':=fun pins s σ H x v Q I rx q=>h pins s σ H x v Q I rx (i x H Q q)
theorem cj.imp {f:Value} {r r':List V→Hp→VK→Prop} (h:cj X f r) (i:∀ xs H Q,r' xs H Q→r xs H Q):cj X f r':=fun pins s σ H x v Q I rx q=>h pins s σ H x v Q I rx (i x H Q q)
theorem IxR.imp {r r':R2} (h:IxR X r) (i:∀ x y H Q,r' x y H Q→r x y H Q):IxR X r':=fun value slice pins s σ H x y v u Q I rx ry q hs=>h value slice pins s σ H x y v u Q I rx ry (i x y H Q q) hs
end
section
variable {K:PySem.W.Frag} {G:Gf} {δ:En} {P:List (D×V)} {σ:L2.St} {H:Hp}
theorem up.mk {t:TDE} {R:D→En→Prop} {Q:VK} (s:S K G δ P σ H) (h:t δ (wd R)) (k:∀ x δ',R x δ'→∀ v H',S K G δ' ((x,v) :: P) σ H'→Q v H'):up K t σ H Q:=⟨G,δ,P,wd R,s,h,k,fun _ _ z=>z.elim⟩
theorem S.dat {i:Nat} {d:D} (s:S K G δ P σ H) (e:δ[i]?=some (.dat d)):∃ v,σ[i]?=some (some v)∧S K G δ ((d,v) :: P) σ H:=by
 obtain ⟨A,x⟩:=s
 obtain ⟨v,q,r⟩:=x.dat i d e
 exact⟨v,q,A,x.push r⟩
theorem S.own {i:Nat} {a:Addr} {d:D} (s:S K G δ P σ H) (e:δ[i]?=some (.own a d)):σ[i]?=some (some (.ref a)):=let ⟨_,x⟩:=s;(x.own i a d e).1
def sc:D→Option V
 | .non=>some .non
 | .bl b=>some (.bl b)
 | .int i=>some (.int i)
 | .str x=>some (.str x)
 | _=>none
theorem Rep.sc {M:Addr→Prop} {d:D} {v:V} (h:sc d=some v):Rep K M H d v:=by
 cases d<;>simp only [DL.sc,Option.some.injEq,reduceCtorEq] at h<;>subst h<;>unfold Rep<;>rfl
theorem S.sc {d:D} {v:V} (s:S K G δ P σ H) (h:sc d=some v):S K G δ ((d,v) :: P) σ H:=let ⟨A,x⟩:=s;⟨A,x.push (Rep.sc h)⟩
end
def dV (i:Nat):TDE:=fun δ R=>∃ d,δ[i]?=some (.dat d)∧R (.d d) δ
def dC (d:D):TDE:=fun δ R=>R (.d d) δ
def dOp (f:List D→(D→Prop)→Prop) (ta tb:TDE):TDE:=fun δ R=>ta δ (wd fun x δ1=>tb δ1 (wd fun y δ2=>f [x,y] fun d=>R (.d d) δ2))
def dUn (f:List D→(D→Prop)→Prop) (ta:TDE):TDE:=fun δ R=>ta δ (wd fun x δ1=>f [x] fun d=>R (.d d) δ1)
def zM:TDA:=fun δ R=>R [] δ
def wo (te:TDE) (t:TDA):TDA:=fun δ R=>te δ (wd fun x δ1=>t δ1 fun ds δ2=>R (x :: ds) δ2)
def qB (f:List D→(D→Prop)→Prop) (t:TDA):TDE:=fun δ R=>t δ fun ds δ1=>f ds fun d=>R (.d d) δ1
def dTup (t:TDA):TDE:=fun δ R=>t δ fun ds δ1=>ds.length≤9000∧R (.d (.tup ds)) δ1
def dLst (t:TDA):TDE:=fun δ R=>t δ fun ds δ1=>ds.length≤9000∧R (.d (.lst ds)) δ1
def dTst (t:TDE):TDT:=fun δ R=>t δ (wd fun x δ1=>∃ b,x=.bl b∧R b δ1)
def dAnd (t u:TDT):TDT:=fun δ R=>t δ fun b δ1=>if b=true then u δ1 R else R false δ1
def dOr (t u:TDT):TDT:=fun δ R=>t δ fun b δ1=>if b=true then R true δ1 else u δ1 R
def dNot (t:TDT):TDT:=fun δ R=>t δ fun b δ1=>R (!b) δ1
def AB (t u:TDE):TDE:=fun δ R=>t δ (wd fun x δ1=>∃ b,x=.bl b∧if b=true then u δ1 R else R (.d (.bl false)) δ1)
def dOrV (t u:TDE):TDE:=fun δ R=>t δ (wd fun x δ1=>∃ b,x=.bl b∧if b=true then R (.d (.bl true)) δ1 else u δ1 R)
def Bx (t:TDE):TDE:=fun δ R=>t δ (wd fun x δ1=>∃ b,x=.bl b∧R (.d (.bl (!b))) δ1)
def dIfE (c:TDT) (t u:TDE):TDE:=fun δ R=>c δ fun b δ1=>if b=true then t δ1 R else u δ1 R
section
variable {X:Cx} {pos:Pos} {a b c:Expr} {ta tb:TDE} {t:TDA} {f:List D→(D→Prop)→Prop} {es:List Expr}
theorem de_v (i:Nat) {x:Str} (hN:X.N[i]?=some x:=by rfl) (hv:Vis X.env.scope x:=by walk_at "v3") (hd:(x == ("__debug__":Str))=false:=by decide)
  (hcd:(x == ("__classdict__":Str))=false:=by decide):DE X (.Name x pos) (dV i):=PE.imp (eA hN hv hd hcd) fun σ H Q h_0=>by
 obtain ⟨G,δ,P,R,s,⟨d,e,r⟩,k,_⟩:=h_0
 obtain ⟨v,q,s'⟩:=s.dat e
 exact⟨v,q,k d δ r v H s'⟩
theorem de_c {v:V} {d:D} (h:PE X a (tC v)) (hs:sc d=some v):DE X a (dC d):=PE.imp h fun σ H Q h_0=>by obtain ⟨G,δ,P,R,s,r,k,_⟩:=h_0;exact k d δ r v H (s.sc hs)
theorem ae {i j pos}:DE X (.Constant (.int i) j pos) (dC (.int i)):=de_c vU rfl
theorem eh {i j pos}:DE X (.Constant (.bool i) j pos) (dC (.bl i)):=de_c B4 rfl
theorem jZ {j pos}:DE X (.Constant .none j pos) (dC .non):=de_c BH rfl
theorem ay {x j pos}:DE X (.Constant (.str x) j pos) (dC (.str x)):=de_c rR rfl
theorem aC {op:Operator} (ho:OpR X (binaryOp op) fun x y=>a6 X.K f [x,y]) (ha:DE X a ta) (hb:DE X b tb):DE X (.BinOp a op b pos) (dOp f ta tb) :=
 PE.imp (BV ho ha hb) fun σ H Q ⟨G,δ,P,R,s,h,k,_⟩=>up.mk s h fun x δ1 h1 v H1 s1=>up.mk s1 h1 fun y δ2 h2 u H2 s2 =>
  S.pure (P':=P) (ds:=[x,y]) (vs:=[v,u]) s2 rfl (by simp) (fun p hp=>by simp [hp]) h2 fun d r v' H' s'=>k d δ2 r v' H' s'
theorem cN {op:CmpOp} (ho:OpR X (compareOp op) fun x y=>a6 X.K f [x,y]) (ha:DE X a ta) (hb:DE X b tb) (hm:behindInMarks op b=false):DE X (.Compare a [op] [b] pos) (dOp f ta tb) :=
 PE.imp (xH ho ha hb hm) fun σ H Q ⟨G,δ,P,R,s,h,k,_⟩=>up.mk s h fun x δ1 h1 v H1 s1=>up.mk s1 h1 fun y δ2 h2 u H2 s2 =>
  S.pure (P':=P) (ds:=[x,y]) (vs:=[v,u]) s2 rfl (by simp) (fun p hp=>by simp [hp]) h2 fun d r v' H' s'=>k d δ2 r v' H' s'
theorem aH {op:CmpOp} (ho:OpR X (compareOp op) fun x y=>a6 X.K f [x,y]) (ha:DE X a ta) (hb:DE X b tb) (hm:behindInMarks op b=false):DT X (.Compare a [op] [b] pos) (dTst (dOp f ta tb)) :=
 PT.imp (y7 ho ha hb hm) fun σ H Q ⟨G,δ,P,R,s,h,k⟩=>up.mk s h fun x δ1 h1 v H1 s1=>up.mk s1 h1 fun y δ2 h2 u H2 s2 =>
  S.pure (P':=P) (ds:=[x,y]) (vs:=[v,u]) s2 rfl (by simp) (fun p hp=>by simp [hp]) h2 fun d r v' H' s'=>by
   obtain ⟨b,e,r⟩:=r
   subst e
   have q:=s'
   obtain ⟨A,q⟩:=q
   have q2:=q.pnd (.bl b,v') (by simp)
   simp only [Rep] at q2
   exact⟨b,q2,k b δ2 r H' (s'.sub fun p hp=>by simp [hp])⟩
theorem vk {op:UnaryOp} (ho:UnR X (unaryOp op) fun x=>a6 X.K f [x]) (ha:DE X a ta):DE X (.UnaryOp op a pos) (dUn f ta) :=
 PE.imp (Ci ho ha) fun σ H Q ⟨G,δ,P,R,s,h,k,_⟩=>up.mk s h fun x δ1 h1 v H1 s1 =>
  S.pure (P':=P) (ds:=[x]) (vs:=[v]) s1 rfl (by simp) (fun p hp=>by simp [hp]) h1 fun d r v' H' s'=>k d δ1 r v' H' s'
theorem cm (h:DE X a ta) (he:∀ whole,isTrue a X.env whole=(do let v←whole;standAt a.pos;holding [v] (truthy v)):=by intro _;rfl):DT X a (dTst ta) :=
 PT.imp (zC h he) fun σ H Q ⟨G,δ,P,R,s,h,k⟩=>up.mk s h fun x δ1 h1 v H1 s1=>by
  obtain ⟨b,e,r⟩:=h1
  subst e
  obtain ⟨A,q⟩:=id s1
  have q2:=q.pnd (.bl b,v) (by simp)
  simp only [Rep] at q2
  exact⟨b,q2,k b δ1 r H1 (s1.sub fun p hp=>by simp [hp])⟩
variable {tA tB':TDT} {rest:List Expr}
theorem DW.dt (h:DW X a tA):DT X a tA:=PW.pt h
theorem sG (ha:DT X a tA):DW X (.BoolOp .And [a] pos) tA:=yo ha
theorem eS (ha:DT X a tA):DW X (.BoolOp .Or [a] pos) tA:=zO ha
theorem wm (ha:DT X a tA) (hb:DW X (.BoolOp .And (b :: rest) pos) tB'):DW X (.BoolOp .And (a :: b :: rest) pos) (dAnd tA tB') :=
 PW.imp (zA ha hb) fun σ H Q h_0=>by obtain ⟨G,δ,P,R,s,h,k⟩:=h_0;exact⟨G,δ,P,_,s,h,fun b δ1 h1 H1 s1=>by
  cases b with
  | true=>exact⟨G,δ1,P,R,s1,h1,k⟩
  | false=>exact k false δ1 h1 H1 s1⟩
theorem jB (ha:DT X a tA) (hb:DW X (.BoolOp .Or (b :: rest) pos) tB'):DW X (.BoolOp .Or (a :: b :: rest) pos) (dOr tA tB') :=
 PW.imp (B9 ha hb) fun σ H Q h_0=>by obtain ⟨G,δ,P,R,s,h,k⟩:=h_0;exact⟨G,δ,P,_,s,h,fun b δ1 h1 H1 s1=>by
  cases b with
  | true=>exact k true δ1 h1 H1 s1
  | false=>exact⟨G,δ1,P,R,s1,h1,k⟩⟩
theorem eX (ha:DT X a tA):DT X (.UnaryOp .Not a pos) (dNot tA) :=
 PT.imp (Aa ha) fun σ H Q h_0=>by obtain ⟨G,δ,P,R,s,h,k⟩:=h_0;exact⟨G,δ,P,_,s,h,fun b δ1 h1 H1 s1=>k _ δ1 h1 H1 s1⟩
theorem tN {K:PySem.W.Frag} {G:Gf} {δ:En} {P:List (D×V)} {σ:L2.St} {H:Hp} {b:Bool} {v:V} (s:S K G δ ((.bl b,v) :: P) σ H):v=.bl b:=by
 obtain ⟨A,q⟩:=s
 have q2:=q.pnd (.bl b,v) (by simp)
 simpa only [Rep] using q2
theorem cZ {op} (h:DE X a ta):DE X (.BoolOp op [a] pos) ta:=AO h
theorem gS (ha:DE X a ta) (hb:DE X (.BoolOp .And (b :: rest) pos) tb):DE X (.BoolOp .And (a :: b :: rest) pos) (AB ta tb) :=
 PE.imp (Bw ha hb) fun σ H Q ⟨G,δ,P,R,s,h,k,k2⟩=>up.mk s h fun x δ1 h1 v H1 s1=>by
  obtain ⟨b,e,r⟩:=h1
  subst e
  refine⟨b,tN s1,?_⟩
  cases b with
  | true=>exact⟨G,δ1,P,R,s1.sub fun p hp=>by simp [hp],r,k,k2⟩
  | false=>exact k (.bl false) δ1 r _ H1 (by rw [← tN s1];exact s1)
theorem qq (ha:DE X a ta) (hb:DE X (.BoolOp .Or (b :: rest) pos) tb):DE X (.BoolOp .Or (a :: b :: rest) pos) (dOrV ta tb) :=
 PE.imp (B8 ha hb) fun σ H Q ⟨G,δ,P,R,s,h,k,k2⟩=>up.mk s h fun x δ1 h1 v H1 s1=>by
  obtain ⟨b,e,r⟩:=h1
  subst e
  refine⟨b,tN s1,?_⟩
  cases b with
  | false=>exact⟨G,δ1,P,R,s1.sub fun p hp=>by simp [hp],r,k,k2⟩
  | true=>exact k (.bl true) δ1 r _ H1 (by rw [← tN s1];exact s1)
theorem l6 (ha:DE X a ta):DE X (.UnaryOp .Not a pos) (Bx ta) :=
 PE.imp (AY ha) fun σ H Q ⟨G,δ,P,R,s,h,k,k2⟩=>up.mk s h fun x δ1 h1 v H1 s1=>by
  obtain ⟨b,e,r⟩:=h1
  subst e
  exact⟨b,tN s1,k _ δ1 r _ H1 ((s1.sub fun p hp=>by simp [hp]).sc rfl)⟩
theorem sK (hc:DT X c tA) (ha:DE X a ta) (hb:DE X b tb):DE X (.IfExp c a b pos) (dIfE tA ta tb) :=
 PE.imp (vp hc ha hb) fun σ H Q h_0=>by obtain ⟨G,δ,P,R,s,h,k,k2⟩:=h_0;exact⟨G,δ,P,_,s,h,fun b δ1 h1 H1 s1=>by
  cases b with
  | true=>exact⟨G,δ1,P,R,s1,h1,k,k2⟩
  | false=>exact⟨G,δ1,P,R,s1,h1,k,k2⟩⟩
theorem af:DA X [] zM:=PA.imp eR fun σ H Q h_0=>by obtain ⟨G,δ,P,R,s,h,k⟩:=h_0;exact k [] δ h [] H rfl s
theorem ac (ha:DE X a ta) (hr:DA X es t) (hs:starEach (a :: es) X.env=(false,eval a X.env) :: starEach es X.env:=by rfl):DA X (a :: es) (wo ta t) :=
 PA.imp (bQ ha hr hs) fun σ H Q h_0=>by obtain ⟨G,δ,P,R,s,h,k⟩:=h_0;exact up.mk s h fun x δ1 h1 v H1 s1=>⟨G,δ1,(x,v) :: P,_,s1,h1,fun ds δ2 h2 vs H2 hl s2 =>
  k (x :: ds) δ2 h2 (v :: vs) H2 (by simp [hl]) (s2.sub fun p hp=>by
   simp only [List.zip_cons_cons,List.cons_append,CQ,CV] at hp ⊢
   rcases hp with h | h | h
   ·exact .inr (.inl h)
   ·exact .inl h
   ·exact .inr (.inr h))⟩
theorem aJ {H:Hp} {p:Addr} (h:H p=none) (o:HO):Same H (upd H p o):=fun b u q=>by rw [aO (cU q h)];exact q
theorem iD {n:Nat} (h:n≤9000):n < sizeLine:=Nat.lt_of_le_of_lt h (by decide)
theorem gg {n:Nat} (h:n≤9000):n≤sizeLine:=Nat.le_of_lt (iD h)
theorem aG {x1} (h:DA X es t):DE X (.Tuple es x1 pos) (dTup t) :=
 PE.imp (zU h) fun σ H Q h_0=>by obtain ⟨G,δ,P,R,s,h,k,_⟩:=h_0;exact⟨G,δ,P,_,s,h,fun ds δ1 ⟨hz,h1⟩ vs H1 hl s1=>⟨by rw [← hl];exact gg hz,fun p hp=>by
  obtain ⟨A,x⟩:=s1
  have r:=x.reps ds vs hl (fun q hq=>CU _ hq)
  have x2:=x.same (aJ hp (.tup vs))
  refine k (.tup ds) δ1 h1 (.ref p) _ ⟨A,(x2.sub fun q hq=>CT _ hq).push ?_⟩
  unfold Rep
  exact⟨p,vs,rfl,SqT.of aI,Reps.kp (Kp.of_same (aJ hp _)) _ _ r⟩⟩⟩
theorem b6 (h:DA X es t):DE X (.List es pos) (dLst t) :=
 PE.imp (tT h) fun σ H Q h_0=>by obtain ⟨G,δ,P,R,s,h,k,_⟩:=h_0;exact⟨G,δ,P,_,s,h,fun ds δ1 ⟨hz,h1⟩ vs H1 hl s1=>⟨by rw [← hl];exact gg hz,fun p hp=>by
  obtain ⟨A,x⟩:=s1
  have r:=x.reps ds vs hl (fun q hq=>CU _ hq)
  have x2:=x.same (aJ hp (.lst vs))
  refine k (.lst ds) δ1 h1 (.ref p) _ ⟨A,(x2.sub fun q hq=>CT _ hq).push ?_⟩
  unfold Rep
  exact⟨p,vs,rfl,fun z=>x.mem p z hp,aI,Reps.kp (Kp.of_same (aJ hp _)) _ _ r⟩⟩⟩
theorem ar (hr:IxR X fun x y=>a6 X.K f [x,y]) (ha:DE X a ta) (hb:DE X b tb) (hs:ug b):DE X (.Subscript a b pos) (dOp f ta tb) :=
 PE.imp (CF hr ha hb hs) fun σ H Q ⟨G,δ,P,R,s,h,k,_⟩=>up.mk s h fun x δ1 h1 v H1 s1=>up.mk s1 h1 fun y δ2 h2 u H2 s2 =>
  S.pure (P':=P) (ds:=[x,y]) (vs:=[v,u]) s2 rfl (by simp) (fun p hp=>by simp [hp]) h2 fun d r v' H' s'=>k d δ2 r v' H' s'
def spD (K:PySem.W.Frag) (f:List D→(D→Prop)→Prop):Sp:=fun vs H Q _=>a6 K f vs H Q
theorem kg {K:PySem.W.Frag} {σ:L2.St} {H:Hp} {Q:VK} {f:List D→(D→Prop)→Prop} (h:up K (qB f t) σ H Q):upA K t σ H fun vs H1=>a6 K f vs H1 Q:=by
 obtain ⟨G,δ,P,R,s,h,k,_⟩:=h
 exact⟨G,δ,P,_,s,h,fun ds δ1 h1 vs H1 hl s1=>S.pure (P':=P) s1 hl (fun p hp=>CU _ hp) (fun p hp=>CT _ hp) h1 fun d r v' H' s'=>k d δ1 r v' H' s'⟩
theorem wQ {x:Str} {k:Nat} {g:Addr} {fd:FuncData} {ps:List Str} {p:Pos} (F:FnOk X.prog X.w X.K X.mg X.base CX0 k g fd ps (spD X.K f)) (hr:Room k X.A) (hg:Gl X x) (hm:X.mg x=some (.ref g)) (hk:PySem.W.keepIn X.K (.ref g)=true)
  (hb:lS X.K fd ps []) (ha:DA X (a :: es) t) (hdb:(x == ("__debug__":Str))=false:=by decide) (he:starEach (a :: es) X.env=(false,eval a X.env) :: starEach es X.env:=by rfl) (hpl:(backTo pos (starEach es X.env)).any (·.1)=false:=by rfl) :
  DE X (.Call (.Name x p) (a :: es) [] pos) (qB f t) :=
 PE.imp (ki F hr hg hm hk hb .nil uk ha hdb he hpl) fun σ H Q h=>by
  show upA X.K t σ H fun vs H1=>a6 X.K f (vs++[]) H1 Q
  have q:=kg h
  simpa only [List.append_nil] using q
theorem ba {x:Str} {id:String} {p:Pos} (hc:cj X (.builtin id) (a6 X.K f)) (hg:Gl X x) (hm:X.mg x=none) (hv:bootBuiltins x=some (.builtin id)) (ha:DA X (a :: es) t) (hn:x≠"__name__":=by decide) (hdb:(x == ("__debug__":Str))=false:=by decide)
  (he:starEach (a :: es) X.env=(false,eval a X.env) :: starEach es X.env:=by rfl) (hpl:(backTo pos (starEach es X.env)).any (·.1)=false:=by rfl):DE X (.Call (.Name x p) (a :: es) [] pos) (qB f t) :=
 PE.imp (kc hc hg hm hv ha hn hdb he hpl) fun σ H Q h=>kg h
theorem cF {x:Str} {T:String} {p:Pos} (hc:cj X (.type T) (a6 X.K f)) (hg:Gl X x) (hm:X.mg x=none) (hv:bootBuiltins x=some (.type T)) (ha:DA X (a :: es) t) (hn:x≠"__name__":=by decide) (hdb:(x == ("__debug__":Str))=false:=by decide)
  (he:starEach (a :: es) X.env=(false,eval a X.env) :: starEach es X.env:=by rfl) (hpl:(backTo pos (starEach es X.env)).any (·.1)=false:=by rfl):DE X (.Call (.Name x p) (a :: es) [] pos) (qB f t) :=
 PE.imp (iW hc hg hm hv ha hn hdb he hpl) fun σ H Q h=>kg h
end
def zV:TDS:=fun R δ=>R.nx δ
def dSeq (t u:TDS):TDS:=fun R δ=>t { R with nx:=u R } δ
def Ae (t:TDE):TDS:=fun R δ=>t δ fun _ δ1=>R.nx δ1
def dRet (t:TDE):TDS:=fun R δ=>t δ (wd fun x δ1=>R.rt x δ1)
def dIf (c:TDT) (t u:TDS):TDS:=fun R δ=>c δ fun b δ1=>if b=true then t R δ1 else u R δ1
def rP:TDS:=fun _ _=>False
def dSet (i:Nat) (t:TDE):TDS:=fun R δ=>t δ (wd fun x δ1=>R.nx (δ1.set i (.dat x)))
def dAsg (t:TDE) (g:TDG):TDS:=fun R δ=>t δ (wd fun x δ1=>g x δ1 R.nx)
def gU (i:Nat):TDG:=fun x δ R=>R (δ.set i (.dat x))
def AJ:TDGs:=fun ds δ R=>ds=[]∧R δ
def we (t:TDG) (u:TDGs):TDGs:=fun ds δ R=>∃ x r,ds=x :: r∧t x δ fun δ1=>u r δ1 R
def kT (n:Nat) (t:TDGs):TDG:=fun d δ R=>∃ xs,d=.tup xs∧xs.length=n∧t xs δ R
def Bv (c:TDT) (tb:TDS):TDS:=fun R δ=>∃ (I:En→Prop) (μ:En→Nat),I δ∧∀ δ,I δ→c δ fun b δ1 =>
 if b=true then tb { R with nx:=fun δ'=>I δ'∧μ δ' < μ δ,ct:=fun δ'=>I δ'∧μ δ' < μ δ,bk:=R.nx,tp:=False } δ1 else R.nx δ1
def qM (t:TDE) (g:TDG) (tb:TDS):TDS:=fun R δ=>t δ (wd fun d δ1=>∃ xs,d=.lst xs∧∃ I:Nat→En→Prop,I 0 δ1 ∧
 (∀ i x δ',xs[i]?=some x→I i δ'→g x δ' fun δ2=>tb { R with nx:=I (i + 1),ct:=I (i + 1),bk:=R.nx,tp:=False } δ2)∧∀ δ',I xs.length δ'→R.nx δ')
def n9 (t:TDE) (g:TDG) (tb:TDS):TDS:=fun R δ=>t δ (wd fun d δ1=>∃ xs,d=.tup xs∧∃ I:Nat→En→Prop,I 0 δ1 ∧
 (∀ i x δ',xs[i]?=some x→I i δ'→g x δ' fun δ2=>tb { R with nx:=I (i + 1),ct:=I (i + 1),bk:=R.nx,tp:=False } δ2)∧∀ δ',I xs.length δ'→R.nx δ')
def xB (t:TDA) (g:TDG) (tb:TDS):TDS:=fun R δ=>t δ fun ds δ1=>∃ j:Int,ds=[.int j]∧-(2 ^ 62)≤j∧j < 2 ^ 62∧∃ I:Nat→En→Prop,I 0 δ1 ∧
 (∀ i δ',i < j.toNat→I i δ'→g (.int i) δ' fun δ2=>tb { R with nx:=I (i + 1),ct:=I (i + 1),bk:=R.nx,tp:=False } δ2)∧∀ δ',I j.toNat δ'→R.nx δ'
section
variable {X:Cx} {pos:Pos} {a b c e tg:Expr} {ta:TDE} {tA:TDT} {t u:TDS} {st:Stmt} {rest body:List Stmt} {g:TDG} {gs:TDGs} {tda:TDA}
theorem aD:DSs X [] zV:=PSs.imp yZ fun E σ H h_0=>by obtain ⟨G,δ,P,R,s,h,k,_⟩:=h_0;exact k δ h σ H s
theorem ad (h1:DS X st t) (h2:DSs X rest u):DSs X (st :: rest) (dSeq t u) :=
 PSs.imp (uZ h1 h2) fun E σ H h_0=>by obtain ⟨G,δ,P,R,s,h,k1,k2,k3,k4⟩:=h_0;exact⟨G,δ,P,{ R with nx:=u R },s,h,fun δ' h' σ' H' s'=>⟨G,δ',P,R,s',h',k1,k2,k3,k4⟩,k2,k3,k4⟩
theorem ag (h1:DS X st t):DSs X [st] t:=y9 h1
theorem ua (he:DE X e ta) (hs:swapsWith e none pos.line X.env=pure false:=by rfl):DS X (.Expr e pos) (Ae ta) :=
 PS.imp (nQ he hs) fun E σ H h_0=>by obtain ⟨G,δ,P,R,s,h,k,_⟩:=h_0;exact⟨G,δ,P,_,s,h,fun x δ1 h1 v H1 s1=>k δ1 h1 σ H1 (s1.sub fun p hp=>by simp [hp]),fun i δ1 h1 a d H1 s1 _=>k δ1 h1 σ H1 s1⟩
theorem av (he:DE X e ta):DS X (.Return (some e) pos) (dRet ta) :=
 PS.imp (tO he) fun E σ H h_0=>by obtain ⟨G,δ,P,R,s,h,_,k,_⟩:=h_0;exact up.mk s h fun x δ1 h1 v H1 s1=>k.1 x δ1 h1 v σ H1 s1
theorem aR {aa bb:List Stmt} (hc:DT X c tA) (ha:DSs X aa t) (hb:DSs X bb u):DS X (.If c aa bb pos) (dIf tA t u) :=
 PS.imp (Cm hc ha hb) fun E σ H h_0=>by obtain ⟨G,δ,P,R,s,h,k1,k2,k3,k4⟩:=h_0;exact⟨G,δ,P,_,s,h,fun b δ1 h1 H1 s1=>by
  cases b with
  | true=>exact⟨G,δ1,P,R,s1,h1,k1,k2,k3,k4⟩
  | false=>exact⟨G,δ1,P,R,s1,h1,k1,k2,k3,k4⟩⟩
theorem ds_never:DS X st rP:=PS.imp u5 fun E σ H h_0=>by obtain ⟨G,δ,P,R,s,h,_⟩:=h_0;exact h
theorem iC:DSs X rest rP:=PSs.imp tP fun E σ H h_0=>by obtain ⟨G,δ,P,R,s,h,_⟩:=h_0;exact h
theorem aA (i:Nat) {x:Str} {pos':Pos} (hN:X.N.Nodup) (he:DE X e ta) (hi:X.N[i]?=some x:=by rfl) (hx:Loc X.env.scope x:=by walk_at "v2") (hs:swapsWith e (some (.Name x pos')) pos.line X.env=pure false:=by rfl)
  (hf:X.fn x=true∨X.env.scope.names.lookup x=some .local :=by walk_at "v1"):DS X (.Assign [.Name x pos'] e pos) (dSet i ta) :=
 PS.imp (lY hN hi hx he hs hf) fun E σ H h_0=>by obtain ⟨G,δ,P,R,s,h,k,_⟩:=h_0;exact up.mk s h fun x δ1 h1 v H1 s1=>k _ h1 _ H1 (s1.set (by simp) fun p hp=>by simp [hp])
theorem sT (he:DE X e ta) (hg:DG X tg g) (hs:swapsWithSole [tg] e pos.line X.env=pure false:=by rfl) (hw:swappedStores [tg] e X.env=pure none:=by rfl)
  (h1:(assignEach [tg] X.env).map (·.2)=[assign tg X.env]:=by rfl):DS X (.Assign [tg] e pos) (dAsg ta g) :=
 PS.imp (Ax he hg hs hw h1) fun E σ H h_0=>by obtain ⟨G,δ,P,R,s,h,k,_⟩:=h_0;exact up.mk s h fun x δ1 h1 v H1 s1=>⟨G,δ1,P,x,R.nx,s1,h1,k⟩
theorem ap (i:Nat) {x:Str} (hN:X.N.Nodup) (hi:X.N[i]?=some x:=by rfl) (hx:Loc X.env.scope x:=by walk_at "v2") (hf:X.fn x=true∨X.env.scope.names.lookup x=some .local :=by walk_at "v1") :
  DG X (.Name x pos) (gU i):=PG.imp (yG hN hi hx hf) fun v σ H Q h_0=>by obtain ⟨G,δ,P,d,R,s,h,k⟩:=h_0;exact k _ h _ H (s.set (by simp) fun p hp=>by simp [hp])
theorem aZ:DGs X [] AJ:=PGs.imp xC fun vs σ H Q h_0=>by
 obtain ⟨G,δ,P,ds,R,hl,s,⟨e,h⟩,k⟩:=h_0
 subst e
 have:vs=[]:=List.length_eq_zero_iff.mp hl.symm
 subst this
 exact⟨rfl,k δ h σ H s⟩
theorem aw {es:List Expr} (h1:DG X e g) (h2:DGs X es gs) (hs:(assignEach (e :: es) X.env).map (·.2)=assign e X.env :: (assignEach es X.env).map (·.2):=by rfl):DGs X (e :: es) (we g gs) :=
 PGs.imp (uC h1 h2 hs) fun vs σ H Q h_0=>by
  obtain ⟨G,δ,P,ds,R,hl,s,⟨x,r,e,h⟩,k⟩:=h_0
  subst e
  cases vs with
  | nil=>cases hl
  | cons v vs =>
   refine⟨v,vs,rfl,G,δ,r.zip vs++P,x,_,s.sub fun p hp=>by simpa using hp,h,fun δ1 h1 σ1 H1 s1=>⟨G,δ1,P,r,R,Nat.succ.inj hl,s1,h1,k⟩⟩
theorem bY {es:List Expr} {kk n:Nat} (hc:X.calm=true) (h:DGs X es gs) (hn:(assignEach es X.env).length=n:=by rfl) (hst:(assignEach es X.env).findIdx? (·.1)=none:=by rfl):DG X (.Tuple es kk pos) (kT n gs) :=
 PG.imp (Bs hc h hn hst) fun v σ H Q h_0=>by
  obtain ⟨G,δ,P,d,R,s,⟨xs,e,hl,h⟩,k⟩:=h_0
  subst e
  obtain ⟨A,x⟩:=s
  have q:=x.pnd (.tup xs,v) (by simp)
  simp only [Rep] at q
  obtain ⟨a,vs,e,sq,r⟩:=q
  subst e
  refine⟨a,vs,rfl,sq,by rw [← Reps.length _ _ r];exact hl,G,δ,P,xs,R,Reps.length _ _ r,⟨A,?_⟩,h,k⟩
  exact⟨x.old,x.stay,x.m0,x.pm,x.new,x.thr,x.len,x.dat,x.own,x.inj,fun p hp=>by
   rcases CV.mp hp with hp | hp
   ·obtain ⟨i,hi,e⟩:=List.mem_iff_getElem.mp hp
    have h1:i < xs.length:=by rw [List.length_zip] at hi;omega
    have h2:i < vs.length:=by rw [List.length_zip] at hi;omega
    obtain ⟨v',e',r'⟩:=Reps.get _ _ r i xs[i] (by simp [h1])
    have:p=(xs[i],vs[i]):=by rw [← e,List.getElem_zip]
    rw [this]
    rw [Dk h2] at e'
    cases e'
    exact r'
   ·exact x.pnd p (by simp [hp])⟩
theorem uD (hp:PassesOwn (model X.prog X.w) X.A X.env X.xe) (hc:DT X c tA) (hb:DSs X body t):DS X (.While c body [] pos) (Bv tA t) :=
 PS.imp (vQ hp hc hb) fun E σ H h_0=>by
  obtain ⟨G,δ,P,R,s,⟨I,μ,i0,turn⟩,k1,k2,k3,k4⟩:=h_0
  refine⟨fun m σ H=>∃ δ,m=μ δ∧I δ∧S X.K G δ P σ H,⟨_,δ,rfl,i0,s⟩,?_⟩
  rintro m σ H ⟨δ,rfl,i,s⟩
  refine⟨G,δ,P,_,s,turn δ i,fun b δ1 h1 H1 s1=>?_⟩
  cases b with
  | false=>exact k1 δ1 h1 σ H1 s1
  | true =>
   refine⟨fun σ' H'=>∃ δ',(I δ'∧μ δ' < μ δ)∧S X.K G δ' P σ' H',fun σ' H' ⟨δ',⟨i',l⟩,s'⟩=>⟨_,l,δ',rfl,i',s'⟩,?_⟩
   exact⟨G,δ1,P,_,s1,h1,fun δ' h' σ' H' s'=>⟨δ',h',s'⟩,k2,k1,fun δ' h' σ' H' s'=>⟨δ',h',s'⟩,fun z=>z.elim⟩
theorem cJ (hp:PassesOwn (model X.prog X.w) X.A X.env X.xe) (hc:X.calm=true) (hi:DE X e ta) (hg:DG X tg g) (hb:DSs X body t) (hs:∀ x,foldedSetIterable e X.env x=pure x:=by intro _;rfl):DS X (.For tg e body [] pos) (qM ta g t) :=
 PS.imp (pM hp hc (t5 hi) hg hb hs) fun E σ H ⟨G,δ,P,R,s,h,k1,k2,k3,k4⟩=>up.mk s h fun d δ1 h1 v H1 s1=>by
  obtain ⟨xs,e,I,i0,turn,fin⟩:=h1
  subst e
  have hat:∀ δ σ H,S X.K G δ ((.lst xs,v) :: P) σ H→∃ a vs,v=.ref a∧SqL X.K H a vs∧vs.length=xs.length:=fun δ σ H ⟨A,x⟩=>by
   have q:=x.pnd (.lst xs,v) (by simp)
   simp only [Rep] at q
   obtain ⟨a,vs,e,_,l,r⟩:=q
   exact⟨a,vs,e,SqL.of l,(Reps.length _ _ r).symm⟩
  have hev:∃ a vs,v=.ref a∧SqL X.K H1 a vs∧vs.length=xs.length:=hat _ _ _ s1
  obtain ⟨a,vs0,rfl,hsq,hl0⟩:=hev
  refine⟨a,rfl,⟨vs0,hsq⟩,fun i m σ H=>m=xs.length - i∧i≤xs.length∧∃ δ,I i δ∧S X.K G δ ((.lst xs,.ref a) :: P) σ H,⟨xs.length,by simp,Nat.zero_le _,δ1,i0,s1⟩,?_⟩
  rintro i m σ H ⟨rfl,hi,δ',ii,s'⟩
  obtain ⟨A,x⟩:=id s'
  have q:=x.pnd (.lst xs,.ref a) (by simp)
  simp only [Rep] at q
  obtain ⟨a',vs,e,_,l,r⟩:=q
  cases e
  have l:SqL X.K H a vs:=SqL.of l
  have hl:xs.length=vs.length:=Reps.length _ _ r
  by_cases hlt:i < xs.length
  ·obtain ⟨v',e',r'⟩:=Reps.get _ _ r i xs[i] (by simp [hlt])
   refine .inr ⟨⟨vs,v',l,e'⟩,fun σ' H'=>∃ δ',I (i + 1) δ'∧S X.K G δ' ((.lst xs,.ref a) :: P) σ' H',fun σ' H' ⟨δ',p',s'⟩=>⟨xs.length - (i + 1),by omega,rfl,hlt,δ',p',s'⟩,fun y H' hy=>?_⟩
   obtain ⟨e,hy⟩:=hy
   subst e
   have:some y=some v':=(hy vs l).symm.trans e'
   cases this
   refine⟨G,δ',(.lst xs,.ref a) :: P,xs[i],_,⟨A,x.push r'⟩,turn i xs[i] δ' (by simp [hlt]) ii,fun δ2 h2 σ2 H2 s2=>?_⟩
   refine⟨G,δ2,(.lst xs,.ref a) :: P,_,s2,h2,fun δ3 h3 σ3 H3 s3=>⟨δ3,h3,s3⟩,⟨fun d δ3 h3 v3 σ3 H3 s3=>k2.1 d δ3 h3 v3 σ3 H3 (s3.sub fun p hp=>by
    rcases CQ.mp hp with rfl | hp
    ·simp
    ·simp [hp]),k2.2⟩,fun δ3 h3 σ3 H3 s3=>k1 δ3 h3 σ3 H3 (s3.sub fun p hp=>by simp [hp]),fun δ3 h3 σ3 H3 s3=>⟨δ3,h3,s3⟩,fun z=>z.elim⟩
  ·have e:i=xs.length:=by omega
   subst e
   exact .inl ⟨⟨vs,l,by omega⟩,k1 δ' (fin δ' ii) σ H (s'.sub fun p hp=>by simp [hp])⟩
theorem gB (hp:PassesOwn (model X.prog X.w) X.A X.env X.xe) (hc:X.calm=true) (hi:DE X e ta) (hg:DG X tg g) (hb:DSs X body t) (hs:∀ x,foldedSetIterable e X.env x=pure x:=by intro _;rfl):DS X (.For tg e body [] pos) (n9 ta g t) :=
 PS.imp (pM hp hc (wp hi) hg hb hs) fun E σ H ⟨G,δ,P,R,s,h,k1,k2,k3,k4⟩=>up.mk s h fun d δ1 h1 v H1 s1=>by
  obtain ⟨xs,e,I,i0,turn,fin⟩:=h1
  subst e
  have hat:∀ δ σ H,S X.K G δ ((.tup xs,v) :: P) σ H→∃ a vs,v=.ref a∧SqT X.K H a vs∧vs.length=xs.length:=fun δ σ H ⟨A,x⟩=>by
   have q:=x.pnd (.tup xs,v) (by simp)
   simp only [Rep] at q
   obtain ⟨a,vs,e,l,r⟩:=q
   exact⟨a,vs,e,l,(Reps.length _ _ r).symm⟩
  have hev:∃ a vs,v=.ref a∧SqT X.K H1 a vs∧vs.length=xs.length:=hat _ _ _ s1
  obtain ⟨a,vs0,rfl,hsq,hl0⟩:=hev
  refine⟨a,rfl,⟨vs0,hsq⟩,fun i m σ H=>m=xs.length - i∧i≤xs.length∧∃ δ,I i δ∧S X.K G δ ((.tup xs,.ref a) :: P) σ H,⟨xs.length,by simp,Nat.zero_le _,δ1,i0,s1⟩,?_⟩
  rintro i m σ H ⟨rfl,hi,δ',ii,s'⟩
  obtain ⟨A,x⟩:=id s'
  have q:=x.pnd (.tup xs,.ref a) (by simp)
  simp only [Rep] at q
  obtain ⟨a',vs,e,l,r⟩:=q
  cases e
  have hl:xs.length=vs.length:=Reps.length _ _ r
  by_cases hlt:i < xs.length
  ·obtain ⟨v',e',r'⟩:=Reps.get _ _ r i xs[i] (by simp [hlt])
   refine .inr ⟨⟨vs,v',l,e'⟩,fun σ' H'=>∃ δ',I (i + 1) δ'∧S X.K G δ' ((.tup xs,.ref a) :: P) σ' H',fun σ' H' ⟨δ',p',s'⟩=>⟨xs.length - (i + 1),by omega,rfl,hlt,δ',p',s'⟩,fun y H' hy=>?_⟩
   obtain ⟨e,hy⟩:=hy
   subst e
   have:some y=some v':=(hy vs l).symm.trans e'
   cases this
   refine⟨G,δ',(.tup xs,.ref a) :: P,xs[i],_,⟨A,x.push r'⟩,turn i xs[i] δ' (by simp [hlt]) ii,fun δ2 h2 σ2 H2 s2=>?_⟩
   refine⟨G,δ2,(.tup xs,.ref a) :: P,_,s2,h2,fun δ3 h3 σ3 H3 s3=>⟨δ3,h3,s3⟩,⟨fun d δ3 h3 v3 σ3 H3 s3=>k2.1 d δ3 h3 v3 σ3 H3 (s3.sub fun p hp=>by
    rcases CQ.mp hp with rfl | hp
    ·simp
    ·simp [hp]),k2.2⟩,fun δ3 h3 σ3 H3 s3=>k1 δ3 h3 σ3 H3 (s3.sub fun p hp=>by simp [hp]),fun δ3 h3 σ3 H3 s3=>⟨δ3,h3,s3⟩,fun z=>z.elim⟩
  ·have e:i=xs.length:=by omega
   subst e
   exact .inl ⟨⟨vs,l,by omega⟩,k1 δ' (fin δ' ii) σ H (s'.sub fun p hp=>by simp [hp])⟩
theorem nr {p pos':Pos} (hp:PassesOwn (model X.prog X.w) X.A X.env X.xe) (hc:X.calm=true) (hgl:Gl X "range") (hm:X.mg "range"=none) (ha:DA X [a] tda) (hg:DG X tg g) (hb:DSs X body t)
  (hse:starEach [a] X.env=[(false,eval a X.env)]:=by rfl) (hs:∀ x,foldedSetIterable (.Call (.Name "range" p) [a] [] pos') X.env x=pure x:=by intro _;rfl) :
  DS X (.For tg (.Call (.Name "range" p) [a] [] pos') body [] pos) (xB tda g t) :=
 PS.imp (pM hp hc (lZ hgl hm ha hse) hg hb hs) fun E σ H h_0=>by obtain ⟨G,δ,P,R,s,h,k1,k2,k3,k4⟩:=h_0;exact⟨G,δ,P,_,s,h,fun ds δ1 h1 vs H1 hl s1=>by
  obtain ⟨j,e,h1,h2,I,i0,turn,fin⟩:=h1
  subst e
  match vs,hl with
  | [v],_ =>
   have q:v=.int j:=by
    obtain ⟨A,x⟩:=s1
    have q:=x.pnd (.int j,v) (by simp)
    simpa only [Rep] using q
   subst q
   have s2:S X.K G δ1 P σ H1:=s1.sub fun p hp=>by simp [hp]
   refine⟨j,rfl,h1,h2,tQ (lo:=0) (n:=j.toNat) (fun i σ H=>∃ δ,I i δ∧S X.K G δ P σ H) ⟨δ1,i0,s2⟩ (fun i σ H hi ⟨δ',ii,s'⟩=>?_) fun σ H h_0=>by obtain ⟨δ',ii,s'⟩:=h_0;exact k1 δ' (fin δ' ii) σ H s'⟩
   refine⟨G,δ',P,.int (0 + i),_,s'.sc rfl,(by have q:=turn i δ' hi ii;rw [Int.zero_add];exact q),fun δ2 h2 σ2 H2 s2=>?_⟩
   exact⟨G,δ2,P,_,s2,h2,fun δ3 h3 σ3 H3 s3=>⟨δ3,h3,s3⟩,k2,k1,fun δ3 h3 σ3 H3 s3=>⟨δ3,h3,s3⟩,fun z=>z.elim⟩⟩
end
end DL
namespace DL
open PySem PySem.Spec PyProof.Rows L2
section
variable {K:PySem.W.Frag} {M:Addr→Prop} {H:Hp}
theorem zS {a:D} {x:V} (h:Reps K M H [a] [x]):Rep K M H a x:=by
 unfold Reps at h
 obtain ⟨v,r,e,q,_⟩:=h
 cases e
 exact q
theorem cK {a b:D} {x y:V} (h:Reps K M H [a,b] [x,y]):Rep K M H a x∧Rep K M H b y:=by
 unfold Reps at h
 obtain ⟨v,r,e,q,h⟩:=h
 cases e
 exact⟨q,zS h⟩
theorem bG {a:D} {vs:List V} (h:Reps K M H [a] vs):∃ x,vs=[x]∧Rep K M H a x:=by
 unfold Reps at h
 obtain ⟨v,r,e,q,h⟩:=h
 unfold Reps at h
 subst h
 exact⟨v,e,q⟩
theorem kX {a b:D} {vs:List V} (h:Reps K M H [a,b] vs):∃ x y,vs=[x,y]∧Rep K M H a x∧Rep K M H b y:=by
 unfold Reps at h
 obtain ⟨v,r,e,q,h⟩:=h
 obtain ⟨y,e2,q2⟩:=bG h
 subst e2
 exact⟨v,y,e,q,q2⟩
theorem aT {i:Int} {v:V} (h:Rep K M H (.int i) v):v=.int i:=by unfold Rep at h;exact h
theorem gX {i:Bool} {v:V} (h:Rep K M H (.bl i) v):v=.bl i:=by unfold Rep at h;exact h
theorem bW {i:Str} {v:V} (h:Rep K M H (.str i) v):v=.str i:=by unfold Rep at h;exact h
end
def fI0 (g:Int→Int→D):List D→(D→Prop)→Prop:=fun ds R=>∃ i j,ds=[.int i,.int j]∧R (g i j)
def fI (C:Int→Int→Prop) (g:Int→Int→D):List D→(D→Prop)→Prop:=fun ds R=>∃ i j,ds=[.int i,.int j]∧C i j∧R (g i j)
def fU (g:Int→D):List D→(D→Prop)→Prop:=fun ds R=>∃ i,ds=[.int i]∧R (g i)
theorem zN {g:Int→Int→D} {a b:Int} {R:D→Prop}:fI0 g [.int a,.int b] R↔R (g a b):=by
 unfold fI0
 constructor
 ·rintro ⟨i,j,e,r⟩;cases e;exact r
 ·exact fun r=>⟨a,b,rfl,r⟩
theorem CA {C:Int→Int→Prop} {g:Int→Int→D} {a b:Int} {R:D→Prop}:fI C g [.int a,.int b] R↔C a b∧R (g a b):=by
 unfold fI
 constructor
 ·rintro ⟨i,j,e,r⟩;cases e;exact r
 ·exact fun r=>⟨a,b,rfl,r⟩
theorem B3 {g:Int→D} {a:Int} {R:D→Prop}:fU g [.int a] R↔R (g a):=by
 unfold fU
 constructor
 ·rintro ⟨i,e,r⟩;cases e;exact r
 ·exact fun r=>⟨a,rfl,r⟩
def CFd (_ j:Int):Prop:=j≠0∧j.natAbs.log2 < 9000
def CNz (_ j:Int):Prop:=j≠0
section
variable {X:Cx}
theorem opI0 {f:Value→Value→Sem Value} {g':Int→Int→V} {g:Int→Int→D} (h:OpR X f (rI0 g')) (hs:∀ i j,sc (g i j)=some (g' i j)):OpR X f fun x y=>a6 X.K (fI0 g) [x,y] :=
 OpR.imp h fun x y H Q h_0=>by
  obtain ⟨M,ds,R,m,rs,⟨i,j,e,r⟩,k⟩:=h_0
  subst e
  obtain ⟨h1,h2⟩:=cK rs
  exact⟨i,j,aT h1,aT h2,k _ r _ H (Same.refl H) (Rep.sc (hs i j))⟩
theorem opI {f:Value→Value→Sem Value} {C C':Int→Int→Prop} {g':Int→Int→V} {g:Int→Int→D} (h:OpR X f (rI C' g')) (hs:∀ i j,sc (g i j)=some (g' i j)) (hc:∀ i j,C i j→C' i j):OpR X f fun x y=>a6 X.K (fI C g) [x,y] :=
 OpR.imp h fun x y H Q h_0=>by
  obtain ⟨M,ds,R,m,rs,⟨i,j,e,c,r⟩,k⟩:=h_0
  subst e
  obtain ⟨h1,h2⟩:=cK rs
  exact⟨i,j,aT h1,aT h2,hc i j c,k _ r _ H (Same.refl H) (Rep.sc (hs i j))⟩
theorem B2:OpR X (binaryOp .Add) fun x y=>a6 X.K (fI0 fun i j=>.int (i + j)) [x,y]:=opI0 Bi fun _ _=>rfl
theorem jD:OpR X (binaryOp .Sub) fun x y=>a6 X.K (fI0 fun i j=>.int (i - j)) [x,y]:=opI0 Ad fun _ _=>rfl
theorem xZ:OpR X (binaryOp .Mult) (rI IntMulOk fun i j=>.int (i * j)):=L2.opI fun _ _ _ _ _ _ _ hc q=>mul_int q hc
theorem bF:OpR X (binaryOp .Mult) fun x y=>a6 X.K (fI IntMulOk fun i j=>.int (i * j)) [x,y]:=opI xZ (fun _ _=>rfl) fun _ _ h=>h
theorem vJ:OpR X (binaryOp .FloorDiv) (rI CFd fun i j=>.int (i.fdiv j)):=L2.opI fun _ _ _ _ _ _ _ hc q=>floordiv_int hc.1 q (.inl (PyProof.noPylong_of_log2 hc.2))
theorem eW:OpR X (binaryOp .FloorDiv) fun x y=>a6 X.K (fI CFd fun i j=>.int (i.fdiv j)) [x,y]:=opI vJ (fun _ _=>rfl) fun _ _ h=>h
theorem gN:OpR X (binaryOp .Mod) fun x y=>a6 X.K (fI CNz fun i j=>.int (i.fmod j)) [x,y]:=opI yD (fun _ _=>rfl) fun _ _ h=>h
theorem xl:OpR X (binaryOp .Pow) fun x y=>a6 X.K (fI CPow fun i j=>.int (i ^ j.toNat)) [x,y]:=opI AA (fun _ _=>rfl) fun _ _ h=>h
theorem o_lt:OpR X (compareOp .Lt) fun x y=>a6 X.K (fI0 fun i j=>.bl (decide (i < j))) [x,y]:=opI0 CC fun _ _=>rfl
theorem o_le:OpR X (compareOp .LtE) fun x y=>a6 X.K (fI0 fun i j=>.bl (decide (i≤j))) [x,y]:=opI0 Cu fun _ _=>rfl
theorem o_gt:OpR X (compareOp .Gt) fun x y=>a6 X.K (fI0 fun i j=>.bl (decide (j < i))) [x,y]:=opI0 BQ fun _ _=>rfl
theorem o_ge:OpR X (compareOp .GtE) fun x y=>a6 X.K (fI0 fun i j=>.bl (decide (j≤i))) [x,y]:=opI0 Ca fun _ _=>rfl
theorem uv:UnR X (unaryOp .USub) fun x=>a6 X.K (fU fun i=>.int (-i)) [x] :=
 UnR.imp AQ fun x H Q h_0=>by
  obtain ⟨M,ds,R,m,rs,⟨i,e,r⟩,k⟩:=h_0
  subst e
  exact⟨i,aT (zS rs),k _ r _ H (Same.refl H) (Rep.sc rfl)⟩
theorem Cc:cj X (.builtin "abs") (a6 X.K (fU fun i=>.int (if i < 0 then -i else i))) :=
 cj.imp vO fun xs H Q h_0=>by
  obtain ⟨M,ds,R,m,rs,⟨i,e,r⟩,k⟩:=h_0
  subst e
  obtain ⟨x,e,q⟩:=bG rs
  subst e
  exact⟨i,by rw [aT q],k _ r _ H (Same.refl H) (Rep.sc rfl)⟩
def fLen:List D→(D→Prop)→Prop
 | [.lst xs],R=>R (.int xs.length)
 | [.fz xs],R=>R (.int xs.length)
 | [.tup xs],R=>R (.int xs.length)
 | _,_=>False
theorem yH {d0:List D} {R:D→Prop} (h:fLen d0 R):(∃ (xs:List D),d0=[.lst xs]∧R (.int xs.length))∨(∃ (xs:List D),d0=[.fz xs]∧R (.int xs.length))∨(∃ (xs:List D),d0=[.tup xs]∧R (.int xs.length)):=by
 rcases d0 with _ | ⟨a,_ | ⟨b,l⟩⟩
 ·exact False.elim h
 ·cases a<;>first | exact False.elim h | exact .inl ⟨_,rfl,h⟩ | exact .inr (.inl ⟨_,rfl,h⟩) | exact .inr (.inr ⟨_,rfl,h⟩)
 ·cases a<;>exact False.elim h
theorem h9:cj X (.builtin "len") (a6 X.K fLen) :=
 cj.imp gT fun xs H Q h_0=>by
  obtain ⟨M,ds,R,m,rs,h,k⟩:=h_0
  have fin:∀ n:Nat,R (.int n)→Q (.int n) H:=fun n r=>k _ r _ H (Same.refl H) (Rep.sc rfl)
  replace h:=yH h
  rcases h with ⟨_,rfl,h⟩ | ⟨_,rfl,h⟩ | ⟨_,rfl,h⟩
  ·obtain ⟨x,e,q⟩:=bG rs
   unfold Rep at q
   obtain ⟨a,vs,e2,_,l,r⟩:=q
   subst e e2
   exact⟨a,vs,rfl,.inl (SqL.of l),fin _ (by rw [← Reps.length _ _ r];exact h)⟩
  ·obtain ⟨x,e,q⟩:=bG rs
   unfold Rep at q
   obtain ⟨a,vs,e2,l,r⟩:=q
   subst e e2
   exact⟨a,vs,rfl,.inl l.seq,fin _ (by rw [← Reps.length _ _ r];exact h)⟩
  ·obtain ⟨x,e,q⟩:=bG rs
   unfold Rep at q
   obtain ⟨a,vs,e2,l,r⟩:=q
   subst e e2
   exact⟨a,vs,rfl,.inr l,fin _ (by rw [← Reps.length _ _ r];exact h)⟩
def fInt:List D→(D→Prop)→Prop
 | [.int i],R=>R (.int i)
 | [.bl b],R=>R (.int (if b then 1 else 0))
 | _,_=>False
theorem yY {d0:List D} {R:D→Prop} (h:fInt d0 R):(∃ (i:Int),d0=[.int i]∧R (.int i))∨(∃ (b:Bool),d0=[.bl b]∧R (.int (if b then 1 else 0))):=by
 rcases d0 with _ | ⟨a,_ | ⟨b,l⟩⟩
 ·exact False.elim h
 ·cases a<;>first | exact False.elim h | exact .inl ⟨_,rfl,h⟩ | exact .inr ⟨_,rfl,h⟩
 ·cases a<;>exact False.elim h
theorem B7:cj X (.type "int") (a6 X.K fInt) :=
 cj.imp sF fun xs H Q h_0=>by
  obtain ⟨M,ds,R,m,rs,h,k⟩:=h_0
  replace h:=yY h
  rcases h with ⟨_,rfl,h⟩ | ⟨_,rfl,h⟩
  ·obtain ⟨x,e,q⟩:=bG rs
   subst e
   exact .inl ⟨_,by rw [aT q],k _ h _ H (Same.refl H) (Rep.sc rfl)⟩
  ·obtain ⟨x,e,q⟩:=bG rs
   subst e
   exact .inr ⟨_,by rw [gX q],k _ h _ H (Same.refl H) (Rep.sc rfl)⟩
def fIx:List D→(D→Prop)→Prop
 | [.tup xs,.int i],R=>∃ v,atI xs i=some v∧R v
 | [.lst xs,.int i],R=>∃ v,atI xs i=some v∧R v
 | [.fz xs,.int i],R=>∃ v,atI xs i=some v∧R v
 | [.str z,.int i],R=>z.length≤9000∧∃ c,atI z.cps.toList i=some c∧R (.str ⟨#[c]⟩)
 | _,_=>False
theorem zJ {d0:List D} {R:D→Prop} (h:fIx d0 R):(∃ (xs:List D) (i:Int),d0=[.tup xs,.int i]∧∃ v,atI xs i=some v∧R v)∨(∃ (xs:List D) (i:Int),d0=[.lst xs,.int i]∧∃ v,atI xs i=some v∧R v)∨(∃ (xs:List D) (i:Int),d0=[.fz xs,.int i]∧∃ v,atI xs i=some v∧R v)∨(∃ (z:Str) (i:Int),d0=[.str z,.int i]∧z.length≤9000∧∃ c,atI z.cps.toList i=some c∧R (.str ⟨#[c]⟩)):=by
 rcases d0 with _ | ⟨a,_ | ⟨b,_ | ⟨c,l⟩⟩⟩
 ·exact False.elim h
 ·cases a<;>exact False.elim h
 ·cases a<;>first | exact False.elim h | (cases b<;>first | exact False.elim h | exact .inl ⟨_,_,rfl,h⟩ | exact .inr (.inl ⟨_,_,rfl,h⟩) | exact .inr (.inr (.inl ⟨_,_,rfl,h⟩)) | exact .inr (.inr (.inr ⟨_,_,rfl,h⟩)))
 ·cases a<;>first | exact False.elim h | (cases b<;>exact False.elim h)
theorem xP {α β:Type} {xs:List α} {ys:List β} (h:xs.length=ys.length) {i:Int} {v:α} (e:atI xs i=some v):∃ j:Nat,xs[j]?=some v∧∀ w,ys[j]?=some w→atI ys i=some w:=by
 unfold atI at e ⊢
 rw [h] at e
 cases q:ixN ys.length i with
 | none=>rw [q] at e;cases e
 | some j=>rw [q] at e;exact⟨j,e,fun w z=>z⟩
theorem au:IxR X fun x y=>a6 X.K fIx [x,y] :=
 IxR.imp zB fun x y H Q h_0=>by
  obtain ⟨M,ds,R,m,rs,h,k⟩:=h_0
  have fin:∀ (xs:List D) (vs:List V) (i:Int) (d:D),Reps X.K M H xs vs→atI xs i=some d→R d→∃ v,atI vs i=some v∧Q v H:=fun xs vs i d r e q=>by
   obtain ⟨j,h1,h2⟩:=xP (Reps.length _ _ r) e
   obtain ⟨v,e',r'⟩:=Reps.get _ _ r j d h1
   exact⟨v,h2 v e',k d q v H (Same.refl H) r'⟩
  replace h:=zJ h
  rcases h with ⟨_,_,rfl,h⟩ | ⟨_,_,rfl,h⟩ | ⟨_,_,rfl,h⟩ | ⟨_,_,rfl,h⟩
  ·obtain ⟨d,e,q⟩:=h
   obtain ⟨h1,h2⟩:=cK rs
   unfold Rep at h1
   obtain ⟨a,vs,e2,l,r⟩:=h1
   obtain ⟨v,e3,q3⟩:=fin _ _ _ _ r e q
   exact .inr (.inl ⟨a,vs,_,v,e2,aT h2,l,e3,q3⟩)
  ·obtain ⟨d,e,q⟩:=h
   obtain ⟨h1,h2⟩:=cK rs
   unfold Rep at h1
   obtain ⟨a,vs,e2,_,l,r⟩:=h1
   obtain ⟨v,e3,q3⟩:=fin _ _ _ _ r e q
   exact .inl ⟨a,vs,_,v,e2,aT h2,SqL.of l,e3,q3⟩
  ·obtain ⟨d,e,q⟩:=h
   obtain ⟨h1,h2⟩:=cK rs
   unfold Rep at h1
   obtain ⟨a,vs,e2,l,r⟩:=h1
   obtain ⟨v,e3,q3⟩:=fin _ _ _ _ r e q
   exact .inl ⟨a,vs,_,v,e2,aT h2,l.seq,e3,q3⟩
  ·obtain ⟨hz,c,e,q⟩:=h
   obtain ⟨h1,h2⟩:=cK rs
   exact .inr (.inr ⟨_,_,c,bW h1,aT h2,gg hz,e,k _ q _ H (Same.refl H) (Rep.sc rfl)⟩)
def fCat:List D→(D→Prop)→Prop
 | [.lst xs,.lst ys],R=>xs.length + ys.length≤9000∧R (.lst (xs++ys))
 | _,_=>False
theorem yI {d0:List D} {R:D→Prop} (h:fCat d0 R):∃ (xs:List D) (ys:List D),d0=[.lst xs,.lst ys]∧xs.length + ys.length≤9000∧R (.lst (xs++ys)):=by
 rcases d0 with _ | ⟨a,_ | ⟨b,_ | ⟨c,l⟩⟩⟩
 ·exact False.elim h
 ·cases a<;>exact False.elim h
 ·cases a<;>first | exact False.elim h | (cases b<;>first | exact False.elim h | exact⟨_,_,rfl,h⟩)
 ·cases a<;>first | exact False.elim h | (cases b<;>exact False.elim h)
theorem Cn:OpR X (binaryOp .Add) fun x y=>a6 X.K fCat [x,y] :=
 OpR.imp AE fun x y H Q h_0=>by
  obtain ⟨M,ds,R,m,rs,h,k⟩:=h_0
  replace h:=yI h
  obtain ⟨_,_,rfl,h⟩:=h
  ·obtain ⟨hz,q⟩:=h
   obtain ⟨h1,h2⟩:=cK rs
   unfold Rep at h1 h2
   obtain ⟨a,vs,e,_,l,r⟩:=h1
   obtain ⟨b,ws,e',_,l',r'⟩:=h2
   refine⟨a,b,vs,ws,e,e',l,l',gg (by rw [← Reps.length _ _ r,← Reps.length _ _ r'];exact hz),fun p hp=>k _ q _ _ (aJ hp _) ?_⟩
   unfold Rep
   exact⟨p,vs++ws,rfl,fun z=>m p z hp,aI,Reps.kp (Kp.of_same (aJ hp _)) _ _ (Reps.append _ _ _ _ r r')⟩
def cut {α:Type} (xs:List α) (lo hi:Option Int):List α:=(xs.drop (HT.sIx xs.length 0 lo)).take (HT.sIx xs.length xs.length hi - HT.sIx xs.length 0 lo)
abbrev TDO:=En→(Option Int→En→Prop)→Prop
inductive UpO (K:PySem.W.Frag) (t:TDO) (σ:L2.St) (H:Hp) (Q:Option Int→Hp→Prop):Prop
 | mk (G:Gf) (δ:En) (P:List (D×V)) (R:Option Int→En→Prop) (s:S K G δ P σ H) (h:t δ R) (k:∀ o δ',R o δ'→∀ H',S K G δ' P σ H'→Q o H')
def upO (K:PySem.W.Frag) (t:TDO):TO:=UpO K t
def DO (X:Cx) (e:Option Expr) (t:TDO):Prop:=PO X e (upO X.K t)
def sA:TDO:=fun δ R=>R none δ
def AT (t:TDE):TDO:=fun δ R=>t δ (wd fun x δ1=>∃ i,x=.int i∧R (some i) δ1)
theorem PO.imp {e:Option Expr} {t t':TO} (h:PO X e t) (i:∀ σ H Q,t' σ H Q→t σ H Q):PO X e t':=fun pins s σ H Q I q=>h pins s σ H Q I (i σ H Q q)
theorem jg:DO X none sA:=PO.imp xA fun σ H Q h_0=>by obtain ⟨G,δ,P,R,s,h,k⟩:=h_0;exact k none δ h H s
theorem fg {e:Expr} {te:TDE} (h:DE X e te):DO X (some e) (AT te):=PO.imp (xG h) fun σ H Q ⟨G,δ,P,R,s,h,k⟩=>up.mk s h fun x δ1 h1 v H1 s1=>by
 obtain ⟨i,e,r⟩:=h1
 subst e
 obtain ⟨A,q⟩:=id s1
 exact⟨i,aT (q.pnd (.int i,v) (by simp)),k _ δ1 r H1 (s1.sub fun p hp=>by simp [hp])⟩
def fSl:D→Option Int→Option Int→(D→Prop)→Prop
 | .lst xs,lo,hi,R=>R (.lst (cut xs lo hi))
 | .fz xs,lo,hi,R=>R (.lst (cut xs lo hi))
 | .tup xs,lo,hi,R=>¬ (HT.sIx xs.length 0 lo=0∧HT.sIx xs.length xs.length hi=xs.length)∧R (.tup (cut xs lo hi))
 | _,_,_,_=>False
def dSl (te:TDE) (tl th:TDO):TDE:=fun δ R=>te δ (wd fun x δ1=>tl δ1 fun l δ2=>th δ2 fun u δ3=>fSl x l u fun d=>R (.d d) δ3)
theorem Reps.cut {K:PySem.W.Frag} {M:Addr→Prop} {H:Hp} {ds:List D} {vs:List V} (lo hi:Option Int) (r:Reps K M H ds vs):Reps K M H (DL.cut ds lo hi) (cutV vs lo hi):=by
 unfold DL.cut cutV
 rw [Reps.length _ _ r]
 exact Reps.take _ _ _ (Reps.drop _ _ _ r)
theorem jW {e:Expr} {te:TDE} {lo hi:Option Expr} {tl th:TDO} {p2 pos:Pos} (he:DE X e te) (hl:DO X lo tl) (hu:DO X hi th):DE X (.Subscript e (.Slice lo hi none p2) pos) (dSl te tl th) :=
 PE.imp (vq (xV.or BE) he hl hu) fun σ H Q h_0=>by obtain ⟨G,δ,P,R,s,h,k,_⟩:=h_0;exact up.mk s h fun x δ1 h1 v H1 s1=>⟨G,δ1,(x,v) :: P,_,s1,h1,fun l δ2 h2 H2 s2=>⟨G,δ2,(x,v) :: P,_,s2,h2,fun u δ3 h3 H3 s3=>by
  obtain ⟨A,q⟩:=id s3
  have r:=q.pnd (x,v) (by simp)
  cases x with
  | lst xs =>
   have h3:R (.d (.lst (cut xs l u))) δ3:=h3
   simp only [Rep] at r
   obtain ⟨a,vs,e,_,sq,r⟩:=r
   refine .inl ⟨a,vs,e,SqL.of sq,fun p hp=>?_⟩
   have x2:=(q.same (aJ hp (.lst (cutV vs l u))))
   refine k _ δ3 h3 (.ref p) _ ⟨A,(x2.sub (P':=P) fun p hp=>CL _ hp).push ?_⟩
   unfold Rep
   exact⟨p,_,rfl,fun z=>q.mem p z hp,aI,Reps.kp (Kp.of_same (aJ hp _)) _ _ (Reps.cut l u r)⟩
  | fz xs =>
   have h3:R (.d (.lst (cut xs l u))) δ3:=h3
   simp only [Rep] at r
   obtain ⟨a,vs,e,sq,r⟩:=r
   refine .inl ⟨a,vs,e,sq.seq,fun p hp=>?_⟩
   have x2:=(q.same (aJ hp (.lst (cutV vs l u))))
   refine k _ δ3 h3 (.ref p) _ ⟨A,(x2.sub (P':=P) fun p hp=>CL _ hp).push ?_⟩
   unfold Rep
   exact⟨p,_,rfl,fun z=>q.mem p z hp,aI,Reps.kp (Kp.of_same (aJ hp _)) _ _ (Reps.cut l u r)⟩
  | tup xs =>
   have h3:¬ (HT.sIx xs.length 0 l=0∧HT.sIx xs.length xs.length u=xs.length)∧R (.d (.tup (cut xs l u))) δ3:=h3
   simp only [Rep] at r
   obtain ⟨a,vs,e,sq,r⟩:=r
   obtain ⟨nf,h3⟩:=h3
   refine .inr ⟨a,vs,e,sq,by rw [← Reps.length _ _ r];exact nf,fun p hp=>?_⟩
   have x2:=(q.same (aJ hp (.tup (cutV vs l u))))
   refine k _ δ3 h3 (.ref p) _ ⟨A,(x2.sub (P':=P) fun p hp=>CL _ hp).push ?_⟩
   unfold Rep
   exact⟨p,_,rfl,SqT.of aI,Reps.kp (Kp.of_same (aJ hp _)) _ _ (Reps.cut l u r)⟩
  | _=>exact (show False from h3).elim⟩⟩
end
end DL
namespace DL
open PySem PySem.Spec PyProof.Rows L2
def gQ (N:List Str) (ds:List D):En:=ds.map Sl.dat++List.replicate (N.length - ds.length) Sl.no
theorem tM {K:PySem.W.Frag} {f:List D→(D→Prop)→Prop} {vs:List V} {H:Hp} {Q:VK} {n:Nat} (h:a6 K f vs H Q) (len:∀ ds R,f ds R→ds.length=n):vs.length=n:=by
 obtain ⟨M,ds,R,m,rs,hf,k⟩:=h
 rw [← Reps.length _ _ rs]
 exact len ds R hf
theorem wV {K:PySem.W.Frag} {M:Addr→Prop} {ds:List D} {vs:List V} {H:Hp} (N:List Str) (m:∀ b,M b→H b≠none) (rs:Reps K M H ds vs):S K ⟨M,H,fun _=>False⟩ (gQ N ds) [] (L2.start N vs) H:=by
 have hl:=Reps.length _ _ rs
 refine⟨fun _=>False,fun b o e _=>e,fun b e=>e,m,fun b h=>h.elim,fun b h=>h.elim,fun b h=>h.elim,?_,fun i d e=>?_,fun i a d e=>?_,fun i j a d e h1 h2=>?_,fun p hp=>(nomatch hp)⟩
 ·unfold gQ L2.start
  rw [CW,CW,CK,CK,C6,C6,hl]
 ·unfold gQ at e
  unfold L2.start
  by_cases hi:i < ds.length
  ·rw [C9 (by rw [CK];exact hi),C0] at e
   cases hd:ds[i]? with
   | none=>rw [hd] at e;cases e
   | some d' =>
    rw [hd] at e
    cases e
    obtain ⟨v,ev,rv⟩:=Reps.get _ _ rs i d hd
    refine⟨v,?_,Rep.more (fun b z=>.inl (z.elim id fun q=>q.elim)) _ _ rv⟩
    rw [C9 (by rw [CK];omega),C0,ev]
    rfl
  ·rw [C8 (by rw [CK];omega),List.getElem?_replicate] at e
   split at e<;>cases e
 all_goals
  unfold gQ at *
  exfalso
 ·by_cases hi:i < ds.length
  ·rw [C9 (by rw [CK];exact hi),C0] at e
   cases hd:ds[i]? with
   | none=>rw [hd] at e;cases e
   | some d'=>rw [hd] at e;cases e
  ·rw [C8 (by rw [CK];omega),List.getElem?_replicate] at e
   split at e<;>cases e
 ·by_cases hi:i < ds.length
  ·rw [C9 (by rw [CK];exact hi),C0] at h1
   cases hd:ds[i]? with
   | none=>rw [hd] at h1;cases h1
   | some d'=>rw [hd] at h1;cases h1
  ·rw [C8 (by rw [CK];omega),List.getElem?_replicate] at h1
   split at h1<;>cases h1
structure Fd (K:PySem.W.Frag) (mg:Str→Option Value) (x:Str) (st:Stmt) (ps:List Str):Prop where
 ex:∃ (a:Addr) (fd:FuncData),Fun K x x st a fd∧lS K fd ps []∧mg x=some (.ref a)
structure Cal (P:Program) (w:World) (K:PySem.W.Frag) (mg:Str→Option Value) (base:Heap) (k:Nat) (x:Str) (ps:List Str) (sp:Sp):Prop where
 ex:∃ (a:Addr) (fd:FuncData),FnOk P w K mg base CX0 k a fd ps sp∧lS K fd ps []∧PySem.W.keepIn K (.ref a)=true∧mg x=some (.ref a)
section
variable {P:Program} {w:World} {K:PySem.W.Frag} {mg:Str→Option Value} {base:Heap}
theorem Cal.mono {j k:Nat} {x:Str} {ps:List Str} {sp:Sp} (C:Cal P w K mg base j x ps sp) (h:j≤k):Cal P w K mg base k x ps sp:=by
 obtain ⟨a,fd,F,b,kp,m⟩:=C.ex
 exact⟨a,fd,F.mono h,b,kp,m⟩
theorem AS {x:Str} {st:Stmt} {N ps:List Str} {k:Nat} {a:Addr} {fd:FuncData} {f:List D→(D→Prop)→Prop} (Fu:Fun K x x st a fd) (Sc:ax N ps (am st)) (len:∀ ds R,f ds R→ds.length=ps.length)
    (hbody:∀ (cdv:Value) (A:Around) (outer:List Env) (s:Shared) (H:Hp) (E:XK) (ds:List D) (R:D→Prop),Room k (A.deeper (envOfC x (am st) s.heap.objs.size a cdv))→f ds R →
      ∃ t,DSs (cxOf CX0 P w K mg base N x (am st) a cdv A outer s H E).nox (bI st) t∧t { nx:=fun _=>R .non,rt:=fun d _=>R d,ro:=R } (gQ N ds)) :
    FnOk P w K mg base CX0 (k + 1) a fd ps (spD K f):=by
  refine Fu.ok Sc (fun vs H Q E h=>tM h len) (fun cdv A outer s H vs Q E hr h=>?_)
  obtain ⟨M,ds,R,hm,rs,hf,hk⟩:=h
  obtain ⟨t,ht,hq⟩:=hbody cdv A outer s H E ds R hr hf
  refine⟨_,ht,⟨M,H,fun _=>False⟩,gQ N ds,[],_,wV N hm rs,hq,fun δ' r σ' H' ⟨A',x⟩=>?_,⟨fun d δ' r v σ' H' ⟨A',x⟩=>?_,fun d r a H' h_0=>by obtain ⟨o1,o2,o3,o4⟩:=h_0;exact hk d r (.ref a) H' (fun b o e=>o1 b o e id) (o4.rep o3 fun b z=>.inl z)⟩,fun _ h=>h.elim,fun _ h=>h.elim,fun z=>z.elim⟩
  · exact hk .non r .non H' (fun b o e=>x.old b o e id) (by unfold Rep;rfl)
  · exact hk d r v H' (fun b o e=>x.old b o e id) (Rep.more (fun b z=>.inl (.inl z)) _ _ (x.pnd (d,v) (by simp)))
theorem fn_D {x:Str} {st:Stmt} {N ps:List Str} {k:Nat} {f:List D→(D→Prop)→Prop} (F:Fd K mg x st ps) (Sc:ax N ps (am st)) (len:∀ ds R,f ds R→ds.length=ps.length)
    (hbody:∀ (a:Addr) (cdv:Value) (A:Around) (outer:List Env) (s:Shared) (H:Hp) (E:XK) (ds:List D) (R:D→Prop),Room k (A.deeper (envOfC x (am st) s.heap.objs.size a cdv))→f ds R →
      ∃ t,DSs (cxOf CX0 P w K mg base N x (am st) a cdv A outer s H E).nox (bI st) t∧t { nx:=fun _=>R .non,rt:=fun d _=>R d,ro:=R } (gQ N ds)) :
    Cal P w K mg base (k + 1) x ps (spD K f):=by
  obtain ⟨a,fd,Fu,b,m⟩:=F.ex
  exact⟨a,fd,AS Fu Sc len (hbody a),b,Fu.kp,m⟩
theorem aq {X:Cx} {a:Expr} {es:List Expr} {t:TDA} {f:List D→(D→Prop)→Prop} {x:Str} {k:Nat} {ps:List Str} {p pos:Pos} (C:Cal X.prog X.w X.K X.mg X.base k x ps (spD X.K f)) (hr:Room k X.A) (hg:Gl X x) (ha:DA X (a :: es) t)
  (hdb:(x == ("__debug__":Str))=false:=by decide) (he:starEach (a :: es) X.env=(false,eval a X.env) :: starEach es X.env:=by rfl) (hpl:(backTo pos (starEach es X.env)).any (·.1)=false:=by rfl) :
  DE X (.Call (.Name x p) (a :: es) [] pos) (qB f t):=by
 obtain ⟨g,fd,F,b,kp,m⟩:=C.ex
 exact wQ F hr hg m kp b ha hdb he hpl
def zm (K:PySem.W.Frag):Sp:=fun vs H Q _=>∃ (a:Addr) (ns:List Int),vs=[.ref a]∧SqL K H a (ns.map V.int)∧Only H∧ns.length≤63∧(∀ n∈ns,Builtin.Int.intBits n≤1048576)∧∀ H',Q (.bl true) H'
def fLaw:List D→(D→Prop)→Prop:=fun ds R=>∃ ns:List Int,ds=[.fz (ns.map D.int)]∧ns.length≤63∧(∀ n∈ns,Builtin.Int.intBits n≤1048576)∧R (.bl true)
theorem An {k:Nat} {ps:List Str} {a:Addr} {fd:FuncData} (F:FnOk P w K mg base CX0 k a fd ps (spD K fLaw)):FnOk P w K mg base CX0 k a fd ps (zm K) :=
 F.imp fun vs H Q E h_0=>by
  obtain ⟨l,ns,e,sq,on,h63,hb,q⟩:=h_0
  subst e
  refine⟨fun _=>False,[.fz (ns.map D.int)],fun d=>d=.bl true,fun _ h=>h.elim,Reps.one ?_,⟨ns,rfl,h63,hb,rfl⟩,fun d e v H' _ r=>?_⟩
  ·unfold Rep
   refine⟨l,ns.map V.int,rfl,?_,Reps.ints ns⟩
   rcases sq with (h | ⟨o,h⟩) | h
   ·rcases on l with z | ⟨o,xs,z⟩
    ·rw [z] at h;cases h
    ·rw [z] at h;cases h
   ·exact .inl ⟨o,h⟩
   ·exact .inr (.inr h)
  ·subst e
   rw [gX r]
   exact q H'
end
end DL
namespace DLH
open PySem PySem.W PySem.Calls PyProof.Rows
theorem iU {ns:List Int} (h:WData.layableAll [.list (ns.map .int)]=true):∀ n∈ns,Builtin.Int.intBits n≤1048576:=fun n hn=>by
 have h1:=layableW_arg h _ (C2.mpr rfl)
 have h2:=layableW_item h1 (.int n) (CM.mpr ⟨n,hn,rfl⟩)
 have h3:=(layableW_iff.mp h2).2.2
 simpa only [WData.weight,Builtin.Int.intBits] using h3
theorem attach_callB {l:OpenLaw} {n:Nat} {q:Program} {loose:List Str} {XP:(Str→Option Value)→Heap→Prop} {YP:World→Heap→Prop} {d:DefRec}
    (hn:l.most=some n) (hdf:d.params.defaults=[])
    (call:∀ (w:World) (s₀ s₁:Shared) (mg mb:Str→Option Value) (fa:Addr) (o:Obj) (pm cd doc:Value) (a:Addr) (vs:List Value) (ns:List Int),
      Ground q loose [] XP w s₀ mg mb s₁.heap→YP w s₁.heap →
      s₁.heap.get? fa=some o→o.data=.func (docDef d.name d.params d.body d.scope pm cd doc)→s₁.heap.CodeRec cd d.name→mg d.name=some (.ref fa) →
      s₁.heap.get? a=some { cls:=.type "list",data:=.seq vs.toArray }→IntsAre vs ns→ns.length≤n→(∀ i∈ns,Builtin.Int.intBits i≤1048576)→s₁.gens=#[] →
      codeAny (model l.prog w) callerA (.call (.ref fa) ⟨[.ref a],[]⟩) (fun r s'=>r=.ok (.ret (.bool true))∧OldK s₁.heap s'.heap∧s'.os=s₁.os∧AllBare s'.gens) s₁) :
    WalkO q loose XP YP l.row.toRowW d [] (fun f vs=>PySem.call f vs):=by
  intro w s₀ s₁ mg mb G Y fa o pm cd doc dV kV ho hd hcd hD hmg hg args vals as hpre hlay hrd hwl hlo
  obtain rfl:dV=.none:=Dflts.none hD hdf
  obtain rfl:kV=.none:=Dflts.noKw hD
  obtain ⟨a,vs,ns,rfl,rfl,hobj,hints,hlen⟩:=Att.script_of hn hpre hwl
  refine enter_call (codeAny_mono (call w s₀ s₁ mg mb fa o pm cd doc a vs ns G Y ho (fd_plain hd) hcd hmg hobj hints hlen (iU hlay) hg) fun r s' hq=>?_)
  obtain ⟨rfl,h2,h3,h4⟩:=hq
  exact⟨.inl ⟨.bool true,.bool true,[],rfl,fun _=>rfl,.bool true,Att.post_true l _,fun _=>⟨List.Pairwise.nil,fun _ hm=>(nomatch hm)⟩⟩,h2,h3,h4⟩
end DLH
namespace DL
open PySem PySem.Spec PyProof.Rows L2
theorem walkB {l:PySem.W.OpenLaw} {k:Nat} {q:Program} {loose:List Str} {XP:(Str→Option Value)→Heap→Prop} {YP:World→Heap→Prop} {d:DefRec} {K:Params→PySem.W.Frag} {x:Str}
    (hn:l.most=some 63) (hdf:d.params.defaults=[]) (hr:Room k PySem.callerA) (hY:∀ (w:World) (h:Heap),YP w h→(K w.params).In h)
    (F:∀ (w:World) (mg:Str→Option Value) (fa:Addr) (h:Heap),(K w.params).In h→h.Ns mainGlobals mg→mg d.name=some (.ref fa) →
      ∃ fd:FuncData,(∀ (s:Shared) (u:Value),BindsTo s fd ⟨[u],[]⟩ [(x,u)])∧∀ base:Heap,(K w.params).In base→base.Ns mainGlobals mg→FnOk l.prog w (K w.params) mg base CX0 k fa fd [x] (zm (K w.params))) :
    PySem.W.WalkO q loose XP YP l.row.toRowW d [] (fun f vs=>PySem.call f vs):=by
  refine DLH.attach_callB hn hdf fun w s₀ s₁ mg mb fa o pm cd doc a vs ns G Y ho hd hcd hmg hobj hints hlen hbits hg=>?_
  have KX:=hY w _ Y
  obtain ⟨fd,hb,hF⟩:=F w mg fa _ KX G.T.g hmg
  exact uy KX G.T.g G.T.b G.T.builtins G.T.nolimit hg hobj hints (CN hlen (by decide)) hr hF hb (fun H hO hS=>⟨a,ns,rfl,hS,hO,hlen,hbits,fun _=>rfl⟩) fun H e s' z=>z
end DL
namespace DL
open PySem PySem.Spec PyProof.Rows L2
def sB (ifs:List Expr) (env:Env):Sem Bool:=forIn ifs true fun c r=>if r=true then do let ok←isTrue c env (eval c env);pure (ForInStep.yield ok) else pure (ForInStep.yield r)
def PF (X:Cx) (ifs:List Expr) (t:TT):Prop :=
 ∀ (pins:List (Addr×Obj)) (s:Shared) (σ:L2.St) (H:Hp) (Q:Bool→Hp→Prop),Inv X pins σ H s→t σ H Q→wpAny (model X.prog X.w) X.A (sB ifs X.env) (TP X pins σ Q) X.xe s
theorem zY {X:Cx}:PF X [] (fun _ H Q=>Q true H):=fun _ _ _ H _ I h=>wpAny_tests_nil ⟨H,I,h⟩
theorem Bd {X:Cx} {c:Expr} {t:TT} (h:PT X c t):PF X [c] t:=fun pins s σ H Q I q=>wpAny_tests_one (h pins s σ H Q I q)
theorem eP {prog:Program} {w:World} {A:Around} {R:Result→Shared→Prop} {s:Shared} {elt target iter:Expr} {ifs:List Expr} {scope:Scope} {pos:Pos} {it acc:Value} {env:Env} (I:Nat→Shared→Prop)
    (turn:∀ n s,I n s→wpAny (model prog w) A (pyNext it) (fun r s₁=>match r with
      | none=>R (.ok .next) s₁
      | some v=>wpAny (model prog w) A (letOwnedTupleGo target it v) (fun _ s₁'=>wpAny (model prog w) A (assign target env v) (fun _ s₂ =>
          wpAny (model prog w) A (sB ifs env) (fun ok s₃ =>
            if ok=true then wpAny (model prog w) A (eval elt env) (fun x s₄ =>
              wpAny (model prog w) A (call (.builtin "list.append") [acc,x]) (fun _ s₅=>∃ m,m < n∧I m s₅) (fun _ _=>False) s₄) (fun _ _=>False) s₃
            else ∃ m,m < n∧I m s₃) (fun _ _=>False) s₂) (fun _ _=>False) s₁') (fun _ _=>False) s₁) (fun _ _=>False) s)
    (n:Nat) (h:I n s) :
    codeAny (model prog w) A (.compLoop (.ListComp elt [⟨target,iter,ifs,0⟩] scope pos) 0 it acc env) R s:=by
  refine codeAny_loop rfl I (fun n s hI=>?_) n h
  show wpAny _ A ((compTurn (.ListComp elt [⟨target,iter,ifs,0⟩] scope pos) 0 it acc env).onRaise (fun x=>do noteFrame x env;theTreesLotGoes x)) _ _ s
  refine wpAny_noted ?_
  rw [compTurn_list]
  refine wpAny_bind (wpAny_standAt (wpAny_bind (wpAny_mono (turn n s hI) (fun r s₁ h₁=>?_) fun _ _ h'=>h'.elim)))
  cases r with
  | none=>exact wpAny_pure h₁
  | some v =>
    refine wpAny_bind (wpAny_mono h₁ (fun _ s₁' h₁'=>?_) fun _ _ h'=>h'.elim)
    refine wpAny_bind (wpAny_mono h₁' (fun _ s₂ h₂=>wpAny_bind (wpAny_mono h₂ (fun ok s₃ h₃=>?_) fun _ _ h'=>h'.elim)) fun _ _ h'=>h'.elim)
    cases ok with
    | false=>exact wpAny_pure ⟨rfl,h₃⟩
    | true =>
      exact wpAny_bind (wpAny_bind (wpAny_mono h₃ (fun x s₄ h₄=>wpAny_bind (wpAny_mono h₄ (fun _ s₅ h₅=>wpAny_pure (wpAny_pure ⟨rfl,h₅⟩)) fun _ _ h'=>h'.elim)) fun _ _ h'=>h'.elim))
def dM (X:Cx) (N':List Str) (scope:Scope) (cl:List (Str×Addr)) (s2:Shared) (H2:Hp) (C:Addr) (fp:List Addr) (pn:List (Addr×Obj)):Cx where
 prog:=X.prog
 w:=X.w
 K:=X.K
 mg:=X.mg
 base:=X.base
 A:=X.A
 N:=N'
 s₀:=s2
 H₀:=H2
 env:=compEnvC scope cl C X.env
 outer:=X.stack
 stack:=X.stack
 ex:=fp
 fn:=fun _=>false
 calm:=X.calm
 pn:=pn
 xe:=fun _ _=>False
def capS (nt:Nat) (caps:List (Nat×Str)) (σ:L2.St):L2.St:=List.replicate nt none++caps.map fun p=>(σ[p.1]?).join
def yP (wi:TI) (nt:Nat) (caps:List (Nat×Str)) (g:TG) (tc:TT) (te:TE):TE:=fun σ H Q=>wi σ H fun J H1=>∀ p,H1 p=none →
 ∃ W:Nat→Nat→List V→L2.St→Hp→Prop,(∃ m,W 0 m [] (capS nt caps σ) (upd H1 p (.lst [])))∧∀ i m xs σ' H',W i m xs σ' H'→(J.stop i H'∧Q (.ref p) H')∨(J.go i H'∧∀ x H2,J.yld i H' x H2 →
  g x σ' H2 fun σ2 H3=>tc σ2 H3 fun b H4=>if b=true then te σ2 H4 fun y H5=>H5 p=some (.lst xs)∧xs.length < sizeLine∧∃ m',m' < m∧W (i + 1) m' (xs++[y]) σ2 (upd H5 p (.lst (xs++[y]))) else ∃ m',m' < m∧W (i + 1) m' xs σ2 H4)
theorem o6 {X:Cx} {elt tgt iter:Expr} {ifs:List Expr} {scope:Scope} {pos:Pos} {wi:TI} {cl:List (Str×Addr)} (tn:List Str) (caps:List (Nat×Str)) {g:TG} {tc:TT} {te:TE}
    (hcalm:X.calm=true) (hclos:closureFor scope X.env=pure cl) (hcell:∀ y∈scope.names,y.2≠.cell) (hkind:scope.kind=.function) (hnames:∀ y∈scope.names,y.2=.local→scope.names.lookup y.1=some .local)
    (hcl:∀ x c,cl.lookup x=some c→X.env.cells.lookup x=some c) (hhas:∀ x,((relabel scope X.env).names.lookup x=some .cell∨(relabel scope X.env).names.lookup x=some .free)→∃ c,cl.lookup x=some c)
    (hcap:∀ p∈caps,X.N[p.1]?=some p.2∧X.env.scope.names.lookup p.2=some .cell∧((relabel scope X.env).names.lookup p.2=some .cell∨(relabel scope X.env).names.lookup p.2=some .free))
    (hi:PI X.nox tgt iter wi)
    (hb:∀ s2 H2 C fp pn,PG (dM X (tn++caps.map (·.2)) scope cl s2 H2 C fp pn) tgt g∧PF (dM X (tn++caps.map (·.2)) scope cl s2 H2 C fp pn) ifs tc∧PE (dM X (tn++caps.map (·.2)) scope cl s2 H2 C fp pn) elt te)
    (hs:∀ x,foldedSetIterable iter X.env x=pure x:=by intro _;rfl)
    {posF:Pos} {use:Option (Value→Sem Unit)} {Qf:Value→Shared→Prop} (pins:List (Addr×Obj)) (s:Shared) (σ:L2.St) (H:Hp) (Q:VK) (I:Inv X.nox pins σ H s) (h:yP wi tn.length caps g tc te σ H Q)
    (fin:∀ p C m4 H3 s4,Inv X.nox pins σ H3 s4→s4.heap.Ns C m4→FpOk X.nox pins H3 C→Q (.ref p) H3→compPost (model X.prog X.w) X.A (fun _ _=>False) use Qf (.ref p) C (.ok .next) s4) :
    wpAny (model X.prog X.w) X.A (comprehension (.ListComp elt [⟨tgt,iter,ifs,0⟩] scope pos) scope X.env posF (newList []) false (eval iter X.env) use) Qf (fun _ _=>False) s:=by
  refine wpAny_comprehension_free (use:=use) rfl hs hclos hkind hnames (wpAny_mono (hi pins s σ H _ I h) (fun x s₁ h₁=>wpAny_mono h₁ (fun itv s₂ h₂=>?_) fun _ _ e=>e) fun _ _ e=>e)
  obtain ⟨it,fp,tnr,J,H1,rfl,I1,T,st,hfp,q⟩:=h₂
  refine wpAny_newObj_type (wpAny_newFunctionEnv hcell (by intro y hy;simp at hy) (fun h₁ hns₁ hsb₁=>?_) hkind)
  dsimp only at hns₁ hsb₁ ⊢
  generalize hH2:s₂.heap.push { cls:=.type "list",dict:=none,data:=.seq ([]:List Value).toArray }=Hq at hns₁ hsb₁ ⊢
  have hC:Hq.objs.size=s₂.heap.objs.size + 1:=by rw [← hH2,Heap.size_push]
  generalize hCe:Hq.objs.size=C at hns₁ hsb₁ hC ⊢
  generalize hpe:s₂.heap.objs.size=p at hC ⊢
  obtain ⟨m1,hns₁⟩:∃ m,h₁.Ns C m:=⟨_,hns₁⟩
  have hpC:p≠C:=Nat.ne_of_lt (by rw [hC];exact Nat.lt_succ_self _)
  have hbs:∀ b,b < s₂.heap.objs.size→b≠C∧b≠p:=fun b hb=>⟨Nat.ne_of_lt (by rw [hC,← hpe];exact Nat.lt_succ_of_lt hb),Nat.ne_of_lt (by rw [← hpe];exact hb)⟩
  have hple:s₂.heap.objs.size≤p:=Nat.le_of_eq hpe
  have hCle:s₂.heap.objs.size≤C:=by rw [hC,← hpe];exact Nat.le_succ _
  have old:∀ b o,s₂.heap.get? b=some o→h₁.get? b=some o:=fun b o e =>
    hsb₁.extBut b o (hbs b (Heap.lt_size e)).1 (CO _ (hH2 ▸ CO _ e))
  have hacc:h₁.get? p=some { cls:=.type "list",data:=.seq ([]:List Value).toArray 0 }:=by
    refine hsb₁.extBut p _ hpC ?_
    rw [← hpe]
    exact CO _ (hH2 ▸ Da _ rfl)
  have hfree:H1 p=none:=I1.hok.fresh hple
  have hfreeC:H1 C=none:=I1.hok.fresh hCle
  obtain ⟨W,⟨m0,w0⟩,turn⟩:=q p hfree
  have X'def:∃ X',X'=dM X (tn++caps.map (·.2)) scope cl s₂ H1 C fp (X.pn++pins):=⟨_,rfl⟩
  obtain ⟨X',hX'⟩:=X'def
  have hstk:∀ b∈frs X.stack,b=X.env.locals∨b∈X.fs:=fun b hb=>CQ.mp (I1.stkSub b hb)
  have hfpl:∀ b∈fp,b < s₂.heap.objs.size:=fun b hb=>let ⟨_,e,_⟩:=T.obj _ _ st b hb;Heap.lt_size e
  have hfps:∀ b∈fp,b∉frs X.stack:=fun b hb z=>(hstk b z).elim (fun e=>(hfp b hb).2.1 e) fun e=>(hfp b hb).2.2.1 e
  have hcells:∀ x c,cl.lookup x=some c→c < s₂.heap.objs.size∧H1 c=none:=fun x c e=>by
    obtain ⟨v,hv⟩:=I1.cell x c (hcl x c e)
    exact⟨hv.lt,I1.freeC x c (hcl x c e)⟩
  have ok:X'.Ok:=by
    subst hX'
    have o:=I1.ok
    exact { mod:=o.mod
            kind:=by show (relabel scope X.env).kind=.function;exact hkind
            glob:=o.glob
            blt:=o.blt
            above:=hCle
            inj:=fun x y c h1 h2=>o.inj x y c (hcl x c h1) (hcl y c h2)
            has:=fun x hx=>hhas x hx
            cab:=fun x c h1 _=>nomatch h1
            hd:=o.hd
            frames:=o.frames
            stk:=.inl rfl
            exf:=fun b hb=>⟨(hbs b (hfpl b hb)).1,fun x c e=>fun z=>(hfp b hb).2.2.2.2.1 x c (hcl x c e) z⟩
            bs:=fun b ob e=>I1.bs b ob e
            bsz:=CN o.bsz I1.sz
            noex:=fun b ob e hb=>by
              obtain ⟨_,_,_,hh,_⟩:=hfp b hb
              rcases hh with hh | hh
              · exact o.noex b ob e hh
              · exact absurd (Heap.lt_size (I1.ok.bs b ob e).1) (Nat.not_lt.mpr hh)
            exfs:=hfps
            funs:=I1.stack
            frf:=I1.stkFree }
  have capOk:∀ (m:Str→Option Value) (i:Nat) (x:Str) (v:V),X'.N[i]?=some x→(capS tn.length caps σ)[i]?=some (some v)→Vis X'.env.scope x→∃ u,RelV v u∧Look X'.env h₁ m x u:=by
    subst hX'
    intro m i x v hN hσ hv
    have hN:(tn++caps.map (·.2))[i]?=some x:=hN
    unfold capS at hσ
    by_cases hi:i < tn.length
    · rw [C9 (by rw [C6];exact hi),List.getElem?_replicate,if_pos hi] at hσ
      cases hσ
    · rw [C8 (by rw [C6];omega),C6] at hσ
      rw [C8 (by omega)] at hN
      rw [C0] at hσ hN
      cases hc:caps[i - tn.length]? with
      | none=>rw [hc] at hN;cases hN
      | some pr =>
        rw [hc] at hN hσ
        have hN:pr.2=x:=Option.some.inj hN
        have hσ:(σ[pr.1]?).join=some v:=Option.some.inj hσ
        obtain ⟨c1,c2,c3⟩:=hcap pr (C1 hc)
        subst hN
        have hσ':σ[pr.1]?=some (some v):=by
          cases z:σ[pr.1]? with
          | none=>rw [z] at hσ;cases hσ
          | some o=>rw [z] at hσ;exact congrArg some hσ
        obtain ⟨m1,hm1,hl1⟩:=I1.loc
        obtain ⟨u,ru,lk⟩:=hl1 pr.1 pr.2 v c1 hσ' (.inr (.inl c2))
        refine⟨u,ru,.inr ⟨c3,?_⟩⟩
        rcases lk with ⟨k,_⟩ | ⟨_,c,ec,ic⟩
        · have k:X.env.scope.names.lookup pr.2=some .local :=k
          rw [c2] at k
          cases k
        · obtain ⟨c',ec'⟩:=hhas pr.2 c3
          have e1:=hcl _ _ ec'
          have ec:X.env.cells.lookup pr.2=some c:=ec
          rw [ec] at e1
          cases e1
          exact⟨c,ec',ic.keeps old⟩
  have un0:Un (frs X.stack) fp H1 (upd H1 p (.lst [])) s₂.heap h₁:=Un.laid old hple hfree
  have I4:∀ tk,Inv X' [] (capS tn.length caps σ) (upd H1 p (.lst [])) { s₂ with heap:=h₁,toks:=tk }:=fun tk=>by
    have hN:X'.N=tn++caps.map (·.2):=by rw [hX'];rfl
    refine⟨ok,?_,I1.bare,?_,⟨m1,?_,fun i x v e1 e2 e3=>?_⟩,fun x c e=>?_,?_,fun x c e=>?_,fun pr hp=>?_,?_,?_⟩
    · rw [hX'];rfl
    · rw [hX'];exact un0
    · rw [hX'];exact hns₁
    · exact capOk _ i x v e1 e2 e3
    · rw [hX'] at e
      obtain ⟨v,hv⟩:=I1.cell x c (hcl x c e)
      exact⟨v,hv.keeps old⟩
    · rw [hX']
      show upd H1 p (.lst []) C=none
      rw [aO (Ne.symm hpC)]
      exact hfreeC
    · rw [hX'] at e
      have hc:=hcells x c e
      show upd H1 p (.lst []) c=none
      rw [aO (hbs c hc.1).2]
      exact hc.2
    · rw [hX'] at hp
      have hp:pr∈(X.pn++pins)++[]:=hp
      rw [List.append_nil] at hp
      obtain ⟨e,n,nl,nf,d⟩:=I1.pin pr hp
      have hlt:=Heap.lt_size e
      refine⟨old _ _ e,?_,?_,fun z=>?_,d⟩
      · rw [aO (hbs _ hlt).2];exact n
      · rw [hX'];exact (hbs _ hlt).1
      · rw [hX'] at z
        exact (hstk _ z).elim nl nf
    · have e1:X'.prog=X.prog:=by rw [hX'];rfl
      have e2:X'.w=X.w:=by rw [hX'];rfl
      rw [e1,e2]
      exact I1.hok.laid old hple ⟨Nat.zero_le _,[],0,.nil,hacc⟩
    · rw [hN]
      unfold capS
      rw [CW,CW,C6,CK,CK]
  have fpk:∀ H',(∀ b∈fp,H' b=none)→∀ b∈fp,FpOk X' [] H' b:=fun H' hn b hb=>by
    rw [hX']
    refine⟨hn b hb,(hbs b (hfpl b hb)).1,hfps b hb,.inl hb,fun x c e=>fun z=>(hfp b hb).2.2.2.2.1 x c (hcl x c e) z,fun pr hp=>?_⟩
    have hp:pr∈(X.pn++pins)++[]:=hp
    rw [List.append_nil] at hp
    exact (hfp b hb).2.2.2.2.2 pr hp
  obtain ⟨hg,hf,he⟩:=hb s₂ H1 C fp (X.pn++pins)
  rw [← hX'] at hg hf he
  have p1:X'.prog=X.prog:=by rw [hX'];rfl
  have p2:X'.w=X.w:=by rw [hX'];rfl
  have p3:X'.K=X.K:=by rw [hX'];rfl
  have p4:X'.calm=true:=by rw [hX'];exact hcalm
  have p5:X'.env=compEnvC scope cl C X.env:=by rw [hX'];rfl
  have p6:X'.A=X.A:=by rw [hX'];rfl
  have p7:X'.xe=fun _ _=>False:=by rw [hX'];rfl
  have st1:tnr 0 h₁:=T.keep _ _ _ st fun b hb o e=>old b o e
  have loop:∀ tk,codeAny (model X.prog X.w) X.A (.compLoop (.ListComp elt [⟨tgt,iter,ifs,0⟩] scope pos) 0 (.ref it) (.ref p) (compEnvC scope cl C X.env))
      (compPost (model X.prog X.w) X.A (fun _ _=>False) use Qf (.ref p) C) { s₂ with heap:=h₁,toks:=tk }:=fun tk=>by
    refine eP (fun n s'=>∃ i xs σ' H',Inv X' [] σ' H' s'∧tnr i s'.heap∧(∀ b∈fp,H' b=none)∧W i n xs σ' H') ?_ m0 ⟨0,[],_,_,I4 tk,st1,fun b hb=>?_,w0⟩
    · rintro n s3 ⟨i,xs,σ3,H3,I3,st3,fr3,w3⟩
      rcases turn i n xs σ3 H3 w3 with ⟨stop,qn⟩ | ⟨go,step⟩
      · have q1:=T.done X' p1 p2 p3 p4 i [] s3 _ H3 (fun _ _=>False) I3 (fpk H3 fr3) st3 stop
        rw [p6] at q1
        refine thn q1 fun r s4 ⟨hr,I4'⟩=>?_
        subst hr
        obtain ⟨m4,hm4,_⟩:=I4'.loc
        rw [p5] at hm4
        have hb4:=I4'.base
        rw [hX'] at hb4
        have hb4:Un (frs X.stack) fp H1 H3 s₂.heap s4.heap:=hb4
        have hfc:H3 C=none:=by
          have z:=I4'.free
          rw [p5] at z
          exact z
        have hok4:HOk X.prog X.w H3 s4.heap:=by
          have hk:=I4'.hok
          rw [p1,p2] at hk
          exact hk
        have hos:s4.os=s₂.os:=by
          have z:=I4'.os
          rw [hX'] at z
          exact z
        have I9:=I1.call' (s':=s4) (ch:=fp) hos hb4 hok4 I4'.bare (fun b hb=>by
          obtain ⟨_,f1,f2,f3,f4,f5⟩:=hfp b hb
          exact⟨f3,f1,f4,f5⟩)
        exact fin p C m4 H3 s4 I9 hm4 ⟨hfc,(I1.fpOk hCle hfreeC).2⟩ qn
      · have q1:=T.item X' p1 p2 p3 p4 i [] s3 _ H3 (fun _ _=>False) I3 (fpk H3 fr3) st3 go
        rw [p6] at q1
        refine thn q1 fun r s4 h_0=>?_
        obtain ⟨u,hr,h4⟩:=h_0
        subst hr
        refine thn h4 fun _ s5 h_0=>?_
        obtain ⟨x,H5,I5,r5,y5,st5,fr5⟩:=h_0
        have I5':=I5.pinned (fpk H5 fr5) (T.obj _ _ st5)
        have q5:=hg _ s5 _ H5 x u _ I5' r5 (step x H5 y5)
        rw [p1,p2,p5,p6,p7] at q5
        refine thn q5 fun _ s6 h_0=>?_
        obtain ⟨σ6,H6,I6,q6⟩:=h_0
        have q6:=hf _ s6 σ6 H6 _ I6 q6
        rw [p1,p2,p5,p6,p7] at q6
        refine thn q6 fun b s7 h_0=>?_
        obtain ⟨H7,I7,q7⟩:=h_0
        have again:∀ {s8:Shared} {H8:Hp},Inv X' ([]++lL fp s5.heap) σ6 H8 s8→Inv X' [] σ6 H8 s8∧tnr (i + 1) s8.heap∧(∀ b∈fp,H8 b=none):=fun {s8 H8} I8=>by
          refine⟨I8.unpinned,T.keep _ _ _ st5 fun b hb o e=>(I8.pin (b,o) (CT _ (CT _ (eM hb e)))).1,fun b hb=>?_⟩
          obtain ⟨o,e,d⟩:=T.obj _ _ st5 b hb
          exact (I8.pin (b,o) (CT _ (CT _ (eM hb e)))).2.1
        cases b with
        | false =>
          obtain ⟨m',hm,w7⟩:=q7
          obtain ⟨a1,a2,a3⟩:=again I7
          exact⟨m',hm,i + 1,xs,σ6,H7,a1,a2,a3,w7⟩
        | true =>
          rw [if_pos rfl]
          have q8:=he _ s7 σ6 H7 _ I7 q7
          rw [p1,p2,p5,p6,p7] at q8
          refine thn q8 fun y s8 h_0=>?_
          obtain ⟨yv,H8,I8,ry,hac,hsz,m',hm,w8⟩:=h_0
          have q9:=mh (X:=X') _ s8 σ6 H8 (.ref p) [yv] (.ref p) [y] (fun _ H9=>H9=upd H8 p (.lst (xs++[yv]))) I8 rfl (.cons ry .nil) ⟨p,xs,yv,rfl,rfl,hac,hsz,rfl⟩
          rw [p1,p2,p6,p7] at q9
          refine thn q9 fun _ s9 h_0=>?_
          obtain ⟨_,H9,I9,_,e9⟩:=h_0
          subst e9
          obtain ⟨a1,a2,a3⟩:=again I9
          exact⟨m',hm,i + 1,xs++[yv],σ6,_,a1,a2,a3,w8⟩
    · rw [aO (hbs b (hfpl b hb)).2]
      exact (hfp b hb).1
  have L0:=loop (s₂.toks + ([]:List (Str×Value)).length)
  exact codeAny_compStart_list L0 (T.self _ _ _ _ _ st1 L0)
theorem xp {X:Cx} {elt tgt iter:Expr} {ifs:List Expr} {scope:Scope} {pos:Pos} {wi:TI} {cl:List (Str×Addr)} (tn:List Str) (caps:List (Nat×Str)) {g:TG} {tc:TT} {te:TE}
  (hcalm:X.calm=true) (hclos:closureFor scope X.env=pure cl) (hcell:∀ y∈scope.names,y.2≠.cell) (hkind:scope.kind=.function) (hnames:∀ y∈scope.names,y.2=.local→scope.names.lookup y.1=some .local)
  (hcl:∀ x c,cl.lookup x=some c→X.env.cells.lookup x=some c) (hhas:∀ x,((relabel scope X.env).names.lookup x=some .cell∨(relabel scope X.env).names.lookup x=some .free)→∃ c,cl.lookup x=some c)
  (hcap:∀ p∈caps,X.N[p.1]?=some p.2∧X.env.scope.names.lookup p.2=some .cell∧((relabel scope X.env).names.lookup p.2=some .cell∨(relabel scope X.env).names.lookup p.2=some .free))
  (hi:PI X.nox tgt iter wi)
  (hb:∀ s2 H2 C fp pn,PG (dM X (tn++caps.map (·.2)) scope cl s2 H2 C fp pn) tgt g∧PF (dM X (tn++caps.map (·.2)) scope cl s2 H2 C fp pn) ifs tc∧PE (dM X (tn++caps.map (·.2)) scope cl s2 H2 C fp pn) elt te)
  (hs:∀ x,foldedSetIterable iter X.env x=pure x:=by intro _;rfl) :
  PE X.nox (.ListComp elt [⟨tgt,iter,ifs,0⟩] scope pos) (yP wi tn.length caps g tc te):=by
 intro pins s σ H Q I h
 rw [eval_ListComp]
 refine o6 tn caps hcalm hclos hcell hkind hnames hcl hhas hcap hi hb hs (use:=none) pins s σ H Q I h fun p C m4 H3 s4 I9 hm4 hf q=>?_
 obtain ⟨f0,f1,f2,f3,f4,f5⟩:=hf
 exact⟨m4,hm4,fun h' hs'=>⟨.ref p,H3,I9.turned (t':=s4.toks) (fun b o hb e=>hs'.extBut b o hb e) f0 f1 f3 f4 f5,rfl,q⟩⟩
theorem oH {X:Cx} {elt tgt iter:Expr} {ifs:List Expr} {scope:Scope} {pos:Pos} {wi:TI} {cl:List (Str×Addr)} (tn:List Str) (caps:List (Nat×Str)) {g:TG} {tc:TT} {te:TE}
  (hcalm:X.calm=true) (hclos:closureFor scope X.env=pure cl) (hcell:∀ y∈scope.names,y.2≠.cell) (hkind:scope.kind=.function) (hnames:∀ y∈scope.names,y.2=.local→scope.names.lookup y.1=some .local)
  (hcl:∀ x c,cl.lookup x=some c→X.env.cells.lookup x=some c) (hhas:∀ x,((relabel scope X.env).names.lookup x=some .cell∨(relabel scope X.env).names.lookup x=some .free)→∃ c,cl.lookup x=some c)
  (hcap:∀ p∈caps,X.N[p.1]?=some p.2∧X.env.scope.names.lookup p.2=some .cell∧((relabel scope X.env).names.lookup p.2=some .cell∨(relabel scope X.env).names.lookup p.2=some .free))
  (hi:PI X.nox tgt iter wi)
  (hb:∀ s2 H2 C fp pn,PG (dM X (tn++caps.map (·.2)) scope cl s2 H2 C fp pn) tgt g∧PF (dM X (tn++caps.map (·.2)) scope cl s2 H2 C fp pn) ifs tc∧PE (dM X (tn++caps.map (·.2)) scope cl s2 H2 C fp pn) elt te)
  (hs:∀ x,foldedSetIterable iter X.env x=pure x:=by intro _;rfl) {i:Nat} {y:Str} {pos' pos2:Pos} (hN:X.N.Nodup) (hi':X.N[i]?=some y) (hx:Loc X.env.scope y) (hsw:swapsWith (.ListComp elt [⟨tgt,iter,ifs,0⟩] scope pos) (some (.Name y pos')) pos2.line X.env=pure true) (hf:X.fn y=true∨X.env.scope.names.lookup y=some .local) :
  PS X.nox (.Assign [.Name y pos'] (.ListComp elt [⟨tgt,iter,ifs,0⟩] scope pos) pos2) (tAsg (yP wi tn.length caps g tc te) (sV i)):=by
 intro pins s σ H D I h
 show wpAny (model X.prog X.w) X.A (exec (.Assign [.Name y pos'] (.ListComp elt [⟨tgt,iter,ifs,0⟩] scope pos) pos2) X.env) _ _ s
 rw [exec_Assign_Name_used _ _ _ _ hsw]
 refine wpAny_bind (wpAny_standAt (wpAny_bind ?_))
 show wpAny _ _ (do let _←comprehension (.ListComp elt [⟨tgt,iter,ifs,0⟩] scope pos) scope X.env _ (newList []) false (eval iter X.env) (some (assign (.Name y pos') X.env))) _ _ s
 refine wpAny_bind (wpAny_mono (o6 tn caps hcalm hclos hcell hkind hnames hcl hhas hcap hi hb hs (use:=some (assign (.Name y pos') X.env)) (Qf:=fun _ s'=>SP X.nox pins D .next s') pins s σ H _ I h fun p C m4 H3 s4 I9 hm4 hfp q=>?_) (fun _ s' hq=>wpAny_pure (wpAny_pure hq)) fun _ _ e=>e)
 obtain ⟨f0,f1,f2,f3,f4,f5⟩:=hfp
 show wpAny _ _ (assign (.Name y pos') X.env (.ref p)) _ _ s4
 refine wpAny_assign_Name (lj (X:=X.nox) I9 hN hi' hx (v:=.ref p) rfl (fun s5 I5 ⟨a,sb,ha⟩=>?_) hf)
 have hac:C≠a:=by
  rcases ha with rfl | ha
  ·exact f1
  ·exact fun z=>f4 y a ha z.symm
 refine⟨m4,hm4.sameBut sb hac,fun h' hs'=>⟨_,H3,I5.turned (t':=s5.toks) (fun b o hb e=>hs'.extBut b o hb e) f0 f1 f3 f4 f5,q⟩⟩
end DL
namespace DL
open PySem PySem.Spec PyProof.Rows L2
theorem gD:bootBuiltins "len"=some (.builtin "len"):=by decide +kernel
theorem BK:bootBuiltins "abs"=some (.builtin "abs"):=by decide +kernel
theorem lQ:bootBuiltins "isinstance"=some (.builtin "isinstance"):=by decide +kernel
theorem CB:bootBuiltins "max"=some (.builtin "max"):=by decide +kernel
theorem kS:bootBuiltins "sorted"=some (.builtin "sorted"):=by decide +kernel
theorem AX:bootBuiltins "int"=some (.type "int"):=by decide +kernel
theorem Am:bootBuiltins "bool"=some (.type "bool"):=by decide +kernel
theorem cB:bootBuiltins "tuple"=some (.type "tuple"):=by decide +kernel
theorem Bp:bootBuiltins "dict"=some (.type "dict"):=by decide +kernel
section
variable {X:Cx}
def A9:List D→(D→Prop)→Prop
 | [.tup xs,.tup ys],R=>xs≠[]∧ys≠[]∧xs.length + ys.length≤9000∧R (.tup (xs++ys))
 | _,_=>False
theorem ul {d0:List D} {R:D→Prop} (h:A9 d0 R):∃ (xs:List D) (ys:List D),d0=[.tup xs,.tup ys]∧xs≠[]∧ys≠[]∧xs.length + ys.length≤9000∧R (.tup (xs++ys)):=by
 rcases d0 with _ | ⟨a,_ | ⟨b,_ | ⟨c,l⟩⟩⟩
 ·exact False.elim h
 ·cases a<;>exact False.elim h
 ·cases a<;>first | exact False.elim h | (cases b<;>first | exact False.elim h | exact⟨_,_,rfl,h⟩)
 ·cases a<;>first | exact False.elim h | (cases b<;>exact False.elim h)
theorem Bc:OpR X (binaryOp .Add) fun x y=>a6 X.K A9 [x,y] :=
 OpR.imp wX fun x y H Q h_0=>by
  obtain ⟨M,ds,R,m,rs,h,k⟩:=h_0
  replace h:=ul h
  obtain ⟨_,_,rfl,h⟩:=h
  ·obtain ⟨n1,n2,hz,q⟩:=h
   obtain ⟨h1,h2⟩:=cK rs
   unfold Rep at h1 h2
   obtain ⟨a,vs,e,l,r⟩:=h1
   obtain ⟨b,ws,e',l',r'⟩:=h2
   have l1:=Reps.length _ _ r
   have l2:=Reps.length _ _ r'
   refine⟨a,b,vs,ws,e,e',l,l',fun z=>n1 (List.eq_nil_of_length_eq_zero (by rw [l1,z];rfl)),gg (by rw [← l1,← l2];exact hz),fun z=>absurd (List.eq_nil_of_length_eq_zero (by rw [l2,z];rfl)) n2,fun _ p hp=>k _ q _ _ (aJ hp _) ?_⟩
   unfold Rep
   exact⟨p,vs++ws,rfl,SqT.of aI,Reps.kp (Kp.of_same (aJ hp _)) _ _ (Reps.append _ _ _ _ r r')⟩
def tY:List D→(D→Prop)→Prop
 | [.int i,.int j],R=>R (.int (i + j))
 | [.lst xs,.lst ys],R=>xs.length + ys.length≤9000∧R (.lst (xs++ys))
 | [.tup xs,.tup ys],R=>xs≠[]∧ys≠[]∧xs.length + ys.length≤9000∧R (.tup (xs++ys))
 | _,_=>False
theorem uX {d0:List D} {R:D→Prop} (h:tY d0 R):(∃ (i:Int) (j:Int),d0=[.int i,.int j]∧R (.int (i + j)))∨(∃ (xs:List D) (ys:List D),d0=[.lst xs,.lst ys]∧xs.length + ys.length≤9000∧R (.lst (xs++ys)))∨(∃ (xs:List D) (ys:List D),d0=[.tup xs,.tup ys]∧xs≠[]∧ys≠[]∧xs.length + ys.length≤9000∧R (.tup (xs++ys))):=by
 rcases d0 with _ | ⟨a,_ | ⟨b,_ | ⟨c,l⟩⟩⟩
 ·exact False.elim h
 ·cases a<;>exact False.elim h
 ·cases a<;>first | exact False.elim h | (cases b<;>first | exact False.elim h | exact .inl ⟨_,_,rfl,h⟩ | exact .inr (.inl ⟨_,_,rfl,h⟩) | exact .inr (.inr ⟨_,_,rfl,h⟩))
 ·cases a<;>first | exact False.elim h | (cases b<;>exact False.elim h)
theorem aS:OpR X (binaryOp .Add) fun x y=>a6 X.K tY [x,y] :=
 OpR.imp (OpR.or (OpR.or B2 Cn) Bc) fun x y H Q h_0=>by
  obtain ⟨M,ds,R,m,rs,h,k⟩:=h_0
  replace h:=uX h
  rcases h with ⟨_,_,rfl,h⟩ | ⟨_,_,rfl,h⟩ | ⟨_,_,rfl,h⟩
  ·exact .inl (.inl ⟨M,_,R,m,rs,⟨_,_,rfl,h⟩,k⟩)
  ·exact .inl (.inr ⟨M,_,R,m,rs,h,k⟩)
  ·exact .inr ⟨M,_,R,m,rs,h,k⟩
mutual
def D.dp:D→Nat
 | .tup xs=>D.dps xs + 1
 | .lst xs=>D.dps xs + 1
 | .fz xs=>D.dps xs + 1
 | .dct _ _=>0
 | .fd _ _=>0
 | .fo _ _ _=>0
 | .non=>0
 | .bl _=>0
 | .int _=>0
 | .str _=>0
def D.dps:List D→Nat
 | []=>0
 | x :: r=>max (D.dp x) (D.dps r)
end
mutual
def D.nd:D→Bool
 | .tup xs=>D.nds xs
 | .lst xs=>D.nds xs
 | .fz xs=>D.nds xs
 | .dct _ _=>false
 | .fd _ _=>false
 | .fo _ _ _=>false
 | .non=>true
 | .bl _=>true
 | .int _=>true
 | .str _=>true
def D.nds:List D→Bool
 | []=>true
 | x :: r=>D.nd x && D.nds r
end
theorem cW (A:Around):A.in1.units=A.units + 1:=rfl
theorem iz (n:Nat):((List.range n).all fun _=>true)=true:=by simp
section
variable {pins:List (Addr×Obj)} {σ:L2.St} {H:Hp} {s:Shared} {M:Addr→Prop}
mutual
theorem Ah (I:Inv X pins σ H s):∀ (d:D) (A:Around) (v v':V) (u u':Value),d.nd=true→A.units + d.dp < cLine→Rep X.K M H d v→Rep X.K M H d v'→RelV v u→RelV v' u'→SeqAt.EqAt A s u u' true
 | .non,A,v,v',u,u',_,_,r,r',q,q'=>by
  unfold Rep at r r';subst r r'
  have:=pV (A:=A) (s:=s) q q' rfl rfl
  exact this
 | .bl b,A,v,v',u,u',_,_,r,r',q,q'=>by
  unfold Rep at r r';subst r r'
  have:=pV (A:=A) (s:=s) q q' rfl rfl
  simpa [eqV] using this
 | .int b,A,v,v',u,u',_,_,r,r',q,q'=>by
  unfold Rep at r r';subst r r'
  have:=pV (A:=A) (s:=s) q q' rfl rfl
  simpa [eqV] using this
 | .str b,A,v,v',u,u',_,_,r,r',q,q'=>by
  unfold Rep at r r';subst r r'
  have:=pV (A:=A) (s:=s) q q' rfl rfl
  simpa [eqV] using this
 | .tup ds,A,v,v',u,u',hn,hd,r,r',q,q'=>by
  unfold Rep at r r'
  obtain ⟨a,vs,rfl,sq,rs⟩:=r
  obtain ⟨b,ws,rfl,sq',rs'⟩:=r'
  cases q
  cases q'
  unfold D.dp at hd
  by_cases e:a=b
  ·subst e;exact SeqAt.EqAt.same _
  ·obtain ⟨its,r1,t1,_⟩:=I.tuple sq
   obtain ⟨its',r2,t2,_⟩:=I.tuple sq'
   have hs:its.length=its'.length:=by rw [← r1.length,← r2.length,← Reps.length _ _ rs,← Reps.length _ _ rs']
   have k:=SeqAt.RcAt.tuples (A:=A) (e:=fun _=>true) t1 t2 (by omega) (eqAt_Ds I ds A.in1 vs ws its its' hn (by rw [cW];omega) rs rs' r1 r2)
   have z:((List.range (min its.toArray.size its'.toArray.size)).all (fun _=>true) && its.toArray.size == its'.toArray.size)=true:=by simp [hs]
   rw [z] at k
   exact SeqAt.EqAt.of_refs e k
 | .lst ds,A,v,v',u,u',hn,hd,r,r',q,q'=>by
  unfold Rep at r r'
  obtain ⟨a,vs,rfl,_,sq,rs⟩:=r
  obtain ⟨b,ws,rfl,_,sq',rs'⟩:=r'
  cases q
  cases q'
  unfold D.dp at hd
  by_cases e:a=b
  ·subst e;exact SeqAt.EqAt.same _
  ·obtain ⟨its,r1,t1,_⟩:=I.list (SqL.of sq)
   obtain ⟨its',r2,t2,_⟩:=I.list (SqL.of sq')
   have hs:its.length=its'.length:=by rw [← r1.length,← r2.length,← Reps.length _ _ rs,← Reps.length _ _ rs']
   have k:=SeqAt.RcAt.lists (A:=A) (e:=fun _=>true) t1.isList t2.isList (by simp [hs]) (by omega) (eqAt_Ds I ds A.in1 vs ws its its' hn (by rw [cW];omega) rs rs' r1 r2)
   rw [iz] at k
   exact SeqAt.EqAt.of_refs e k
 | .fz ds,A,v,v',u,u',hn,hd,r,r',q,q'=>by
  unfold Rep at r r'
  obtain ⟨a,vs,rfl,sq,rs⟩:=r
  obtain ⟨b,ws,rfl,sq',rs'⟩:=r'
  cases q
  cases q'
  unfold D.dp at hd
  by_cases e:a=b
  ·subst e;exact SeqAt.EqAt.same _
  ·obtain ⟨its,r1,t1,_⟩:=I.list sq.seq
   obtain ⟨its',r2,t2,_⟩:=I.list sq'.seq
   have hs:its.length=its'.length:=by rw [← r1.length,← r2.length,← Reps.length _ _ rs,← Reps.length _ _ rs']
   have k:=SeqAt.RcAt.lists (A:=A) (e:=fun _=>true) t1.isList t2.isList (by simp [hs]) (by omega) (eqAt_Ds I ds A.in1 vs ws its its' hn (by rw [cW];omega) rs rs' r1 r2)
   rw [iz] at k
   exact SeqAt.EqAt.of_refs e k
 | .dct ks ds,A,v,v',u,u',hn,_,_,_,_,_=>by unfold D.nd at hn;cases hn
 | .fd ks ds,A,v,v',u,u',hn,_,_,_,_,_=>by unfold D.nd at hn;cases hn
 | .fo o ks ds,A,v,v',u,u',hn,_,_,_,_,_=>by unfold D.nd at hn;cases hn
theorem eqAt_Ds (I:Inv X pins σ H s):∀ (ds:List D) (A:Around) (vs ws:List V) (us us':List Value),D.nds ds=true→A.units + D.dps ds < cLine→Reps X.K M H ds vs→Reps X.K M H ds ws→Vals vs us→Vals ws us' →
  ∀ j (h1:j < us.toArray.size) (h2:j < us'.toArray.size),SeqAt.EqAt A s us.toArray[j] us'.toArray[j] true
 | [],A,vs,ws,us,us',_,_,r,r',q,q',j,h1,h2=>by
  unfold Reps at r
  subst r
  cases q
  exact absurd h1 (by simp)
 | d :: ds,A,vs,ws,us,us',hn,hd,r,r',q,q',j,h1,h2=>by
  unfold Reps at r r'
  obtain ⟨v,vr,rfl,rv,rs⟩:=r
  obtain ⟨w',wr,rfl,rw',rs'⟩:=r'
  unfold D.nds at hn
  obtain ⟨n1,n2⟩:=Dh.mp hn
  unfold D.dps at hd
  cases q with
  | @cons _ u0 _ ur qa qb =>
   cases q' with
   | @cons _ u1 _ ur' qa' qb' =>
    cases j with
    | zero=>exact Ah I d A v w' _ _ n1 (by omega) rv rw' qa qa'
    | succ j =>
     have z:=eqAt_Ds I ds A vr wr ur ur' n2 (by omega) rs rs' qb qb' j (by simpa using h1) (by simpa using h2)
     simpa using z
end
end
theorem wq {i j:Int}:decide (V.int i=V.int j)=decide (i=j):=by rw [mr];exact Bool.beq_eq_decide_eq _ _
theorem zE {i j:Bool}:decide (V.bl i=V.bl j)=decide (i=j):=by rw [sN];exact Bool.beq_eq_decide_eq _ _
theorem wD {i j:Str}:decide (V.str i=V.str j)=decide (i=j):=by rw [mL];exact Bool.beq_eq_decide_eq _ _
def fEq:List D→(D→Prop)→Prop
 | [.int i,.int j],R=>R (.bl (decide (i=j)))
 | [.str x,.str y],R=>R (.bl (decide (x=y)))
 | [.bl a,.bl b],R=>R (.bl (decide (a=b)))
 | [.tup xs,.tup ys],R=>(xs=ys∧D.nds xs=true∧D.dps xs≤60)∧R (.bl true)
 | [.lst xs,.lst ys],R=>((xs=ys∧D.nds xs=true∧D.dps xs≤60)∧R (.bl true))∨(xs.length≠ys.length∧R (.bl false))
 | _,_=>False
theorem Bt {d0:List D} {R:D→Prop} (h:fEq d0 R):(∃ (i:Int) (j:Int),d0=[.int i,.int j]∧R (.bl (decide (i=j))))∨(∃ (x:Str) (y:Str),d0=[.str x,.str y]∧R (.bl (decide (x=y))))∨(∃ (a:Bool) (b:Bool),d0=[.bl a,.bl b]∧R (.bl (decide (a=b))))∨(∃ (xs:List D) (ys:List D),d0=[.tup xs,.tup ys]∧(xs=ys∧D.nds xs=true∧D.dps xs≤60)∧R (.bl true))∨(∃ (xs:List D) (ys:List D),d0=[.lst xs,.lst ys]∧(((xs=ys∧D.nds xs=true∧D.dps xs≤60)∧R (.bl true))∨(xs.length≠ys.length∧R (.bl false)))):=by
 rcases d0 with _ | ⟨a,_ | ⟨b,_ | ⟨c,l⟩⟩⟩
 ·exact False.elim h
 ·cases a<;>exact False.elim h
 ·cases a<;>first | exact False.elim h | (cases b<;>first | exact False.elim h | exact .inl ⟨_,_,rfl,h⟩ | exact .inr (.inl ⟨_,_,rfl,h⟩) | exact .inr (.inr (.inl ⟨_,_,rfl,h⟩)) | exact .inr (.inr (.inr (.inl ⟨_,_,rfl,h⟩))) | exact .inr (.inr (.inr (.inr ⟨_,_,rfl,h⟩))))
 ·cases a<;>first | exact False.elim h | (cases b<;>exact False.elim h)
theorem zc {i j:Int} {R:D→Prop}:fEq [.int i,.int j] R↔R (.bl (decide (i=j))):=Iff.rfl
theorem xX {i j:Str} {R:D→Prop}:fEq [.str i,.str j] R↔R (.bl (decide (i=j))):=Iff.rfl
theorem BB {i j:Bool} {R:D→Prop}:fEq [.bl i,.bl j] R↔R (.bl (decide (i=j))):=Iff.rfl
theorem ya {i j:List D} {R:D→Prop}:fEq [.tup i,.tup j] R↔(i=j∧D.nds i=true∧D.dps i≤60)∧R (.bl true):=Iff.rfl
theorem o_eq (hu:X.A.units + 64 < cLine):OpR X (compareOp .Eq) fun x y=>a6 X.K fEq [x,y]:=by
 intro pins s σ H x y v u Q I rx ry h
 obtain ⟨M,ds,R,m,rs,h,k⟩:=h
 replace h:=Bt h
 rcases h with ⟨_,_,rfl,h⟩ | ⟨_,_,rfl,h⟩ | ⟨_,_,rfl,h⟩ | ⟨_,_,rfl,h⟩ | ⟨_,_,rfl,h⟩
 ·obtain ⟨h1,h2⟩:=cK rs
  cases aT h1
  cases aT h2
  refine yk pins s σ H _ _ v u Q I rx ry ⟨rfl,?_⟩
  rw [wq]
  exact k _ h _ H (Same.refl H) (Rep.sc rfl)
 ·obtain ⟨h1,h2⟩:=cK rs
  cases bW h1
  cases bW h2
  refine yk pins s σ H _ _ v u Q I rx ry ⟨rfl,?_⟩
  rw [wD]
  exact k _ h _ H (Same.refl H) (Rep.sc rfl)
 ·obtain ⟨h1,h2⟩:=cK rs
  cases gX h1
  cases gX h2
  refine yk pins s σ H _ _ v u Q I rx ry ⟨rfl,?_⟩
  rw [zE]
  exact k _ h _ H (Same.refl H) (Rep.sc rfl)
 ·obtain ⟨⟨e,hn,hd⟩,h⟩:=h
  subst e
  obtain ⟨h1,h2⟩:=cK rs
  unfold Rep at h1 h2
  obtain ⟨a,vs,rfl,sq,rs1⟩:=h1
  obtain ⟨b,ws,rfl,sq',rs2⟩:=h2
  cases rx
  cases ry
  obtain ⟨its,r1,t1,_⟩:=I.tuple sq
  obtain ⟨its',r2,t2,_⟩:=I.tuple sq'
  have hs:its.length=its'.length:=by rw [← r1.length,← r2.length,← Reps.length _ _ rs1,← Reps.length _ _ rs2]
  refine SeqAt.eq_tupleAt (e:=fun _=>true) t1 t2 (by omega) (eqAt_Ds I _ X.A.in1 vs ws its its' hn (by rw [cW];omega) rs1 rs2 r1 r2) ?_
  have z:((List.range (min its.toArray.size its'.toArray.size)).all (fun _=>true) && its.toArray.size == its'.toArray.size)=true:=by simp [hs]
  rw [z]
  exact⟨.bl true,H,I,rfl,k _ h _ H (Same.refl H) (Rep.sc rfl)⟩
 ·obtain ⟨h1,h2⟩:=cK rs
  unfold Rep at h1 h2
  obtain ⟨a,vs,rfl,_,sq,rs1⟩:=h1
  obtain ⟨b,ws,rfl,_,sq',rs2⟩:=h2
  cases rx
  cases ry
  obtain ⟨its,r1,t1,_⟩:=I.list (SqL.of sq)
  obtain ⟨its',r2,t2,_⟩:=I.list (SqL.of sq')
  rcases h with ⟨⟨e,hn,hd⟩,h⟩ | ⟨ne,h⟩
  ·subst e
   have hs:its.length=its'.length:=by rw [← r1.length,← r2.length,← Reps.length _ _ rs1,← Reps.length _ _ rs2]
   refine SeqAt.eq_listAt (e:=fun _=>true) t1.isList t2.isList (by simp [hs]) (by omega) (eqAt_Ds I _ X.A.in1 vs ws its its' hn (by rw [cW];omega) rs1 rs2 r1 r2) ?_
   rw [iz]
   exact⟨.bl true,H,I,rfl,k _ h _ H (Same.refl H) (Rep.sc rfl)⟩
  ·refine SeqAt.eq_list_lengthsAt t1.isList t2.isList ?_ (by omega) ⟨.bl false,H,I,rfl,k _ h _ H (Same.refl H) (Rep.sc rfl)⟩
   have l1:=r1.length
   have l2:=r2.length
   have l3:=Reps.length _ _ rs1
   have l4:=Reps.length _ _ rs2
   simp only [C7,bne_iff_ne,ne_eq]
   omega
def fNe:List D→(D→Prop)→Prop
 | [.int i,.int j],R=>R (.bl (!decide (i=j)))
 | [.str x,.str y],R=>R (.bl (!decide (x=y)))
 | [.bl a,.bl b],R=>R (.bl (!decide (a=b)))
 | _,_=>False
theorem zW {d0:List D} {R:D→Prop} (h:fNe d0 R):(∃ (i:Int) (j:Int),d0=[.int i,.int j]∧R (.bl (!decide (i=j))))∨(∃ (x:Str) (y:Str),d0=[.str x,.str y]∧R (.bl (!decide (x=y))))∨(∃ (a:Bool) (b:Bool),d0=[.bl a,.bl b]∧R (.bl (!decide (a=b)))):=by
 rcases d0 with _ | ⟨a,_ | ⟨b,_ | ⟨c,l⟩⟩⟩
 ·exact False.elim h
 ·cases a<;>exact False.elim h
 ·cases a<;>first | exact False.elim h | (cases b<;>first | exact False.elim h | exact .inl ⟨_,_,rfl,h⟩ | exact .inr (.inl ⟨_,_,rfl,h⟩) | exact .inr (.inr ⟨_,_,rfl,h⟩))
 ·cases a<;>first | exact False.elim h | (cases b<;>exact False.elim h)
theorem o_ne (_:X.A.units + 64 < cLine):OpR X (compareOp .NotEq) fun x y=>a6 X.K fNe [x,y]:=by
 intro pins s σ H x y v u Q I rx ry h
 obtain ⟨M,ds,R,m,rs,h,k⟩:=h
 replace h:=zW h
 rcases h with ⟨_,_,rfl,h⟩ | ⟨_,_,rfl,h⟩ | ⟨_,_,rfl,h⟩
 ·obtain ⟨h1,h2⟩:=cK rs
  cases aT h1
  cases aT h2
  refine xk pins s σ H _ _ v u Q I rx ry ⟨rfl,?_⟩
  rw [wq]
  exact k _ h _ H (Same.refl H) (Rep.sc rfl)
 ·obtain ⟨h1,h2⟩:=cK rs
  cases bW h1
  cases bW h2
  refine xk pins s σ H _ _ v u Q I rx ry ⟨rfl,?_⟩
  rw [wD]
  exact k _ h _ H (Same.refl H) (Rep.sc rfl)
 ·obtain ⟨h1,h2⟩:=cK rs
  cases gX h1
  cases gX h2
  refine xk pins s σ H _ _ v u Q I rx ry ⟨rfl,?_⟩
  rw [zE]
  exact k _ h _ H (Same.refl H) (Rep.sc rfl)
def fIs:List D→(D→Prop)→Prop
 | [.bl a,.bl b],R=>R (.bl (decide (a=b)))
 | [.non,.non],R=>R (.bl true)
 | [.tup _,.non],R=>R (.bl false)
 | _,_=>False
theorem AZ {d0:List D} {R:D→Prop} (h:fIs d0 R):(∃ (a:Bool) (b:Bool),d0=[.bl a,.bl b]∧R (.bl (decide (a=b))))∨(d0=[.non,.non]∧R (.bl true))∨(∃ (z1:List D),d0=[.tup z1,.non]∧R (.bl false)):=by
 rcases d0 with _ | ⟨a,_ | ⟨b,_ | ⟨c,l⟩⟩⟩
 ·exact False.elim h
 ·cases a<;>exact False.elim h
 ·cases a<;>first | exact False.elim h | (cases b<;>first | exact False.elim h | exact .inl ⟨_,_,rfl,h⟩ | exact .inr (.inl ⟨rfl,h⟩) | exact .inr (.inr ⟨_,rfl,h⟩))
 ·cases a<;>first | exact False.elim h | (cases b<;>exact False.elim h)
theorem Bm {i j:Bool} {R:D→Prop}:fIs [.bl i,.bl j] R↔R (.bl (decide (i=j))):=Iff.rfl
theorem Az:OpR X (compareOp .Is) (fun x y H Q=>∃ a b,x=.bl a∧y=.bl b∧Q (.bl (decide (a=b))) H):=by
 intro pins s σ H x y v u Q I rx ry h
 obtain ⟨a,b,rfl,rfl,q⟩:=h
 cases rx
 cases ry
 refine wpAny_is_plain rfl ⟨.bl _,H,I,rfl,?_⟩
 have e:(Value.bool a == Value.bool b)=decide (a=b):=by cases a<;>cases b<;>rfl
 rw [e]
 exact q
theorem o_is:OpR X (compareOp .Is) fun x y=>a6 X.K fIs [x,y] :=
  OpR.imp (OpR.or Az Ap) fun x y H Q h_0=>by
    obtain ⟨M,ds,R,m,rs,h,k⟩:=h_0
    have fin:∀ b,R (.bl b)→Q (.bl b) H:=fun b r=>k _ r _ H (Same.refl H) (Rep.sc rfl)
    replace h:=AZ h
    rcases h with ⟨_,_,rfl,h⟩ | ⟨rfl,h⟩ | ⟨_,rfl,h⟩
    · obtain ⟨h1,h2⟩:=cK rs
      exact .inl ⟨_,_,gX h1,gX h2,fin _ h⟩
    all_goals first
      | exact h.elim
      | (obtain ⟨h1,h2⟩:=cK rs
         unfold Rep at h1 h2
         first
           | (subst h1;exact .inr ⟨h2,fin _ h⟩)
           | (obtain ⟨a,vs,e,_⟩:=h1;subst e;exact .inr ⟨h2,fin _ h⟩))
def tyN:D→String
 | .non=>"NoneType"
 | .bl _=>"bool"
 | .int _=>"int"
 | .str _=>"str"
 | .tup _=>"tuple"
 | .lst _=>"list"
 | .fz _=>"list"
 | .dct _ _=>"dict"
 | .fd _ _=>"dict"
 | .fo _ _ _=>"dict"
def isT (T n:String):Bool:=n == T || (n == "bool" && T == "int")
def qK (T:String):Prop:=∀ (K:PySem.W.Frag) (n:String),n∈["NoneType","bool","int","str","tuple","list","dict"]→PySem.W.kitOne K (.type n) (.type T)=some (isT T n)
theorem wP (d:D):tyN d∈["NoneType","bool","int","str","tuple","list","dict"]:=by cases d<;>simp [tyN]
theorem Ck {pins:List (Addr×Obj)} {σ:L2.St} {H:Hp} {s:Shared} {A:Around} {E:Value→Shared→Prop} {M:Addr→Prop} {d:D} {v:V} {u:Value} {T:String} {Q:Value→Shared→Prop} (I:L2.Inv X pins σ H s) (r:Rep X.K M H d v) (ru:RelV v u) (ht:qK T)
  (h:∀ tk,Q (.bool (isT T (tyN d))) { s with toks:=tk }):wpAny (model X.prog X.w) A (call (.builtin "isinstance") [u,.type T]) Q E s:=by
 have e:=ht X.K (tyN d) (wP d)
 cases d with
 | non=>unfold Rep at r;subst r;exact dz I ru (.non) e h
 | bl b=>unfold Rep at r;subst r;exact dz I ru (.bl b) e h
 | int b=>unfold Rep at r;subst r;exact dz I ru (.int b) e h
 | str b=>unfold Rep at r;subst r;exact dz I ru (.str b) e h
 | tup xs =>
  unfold Rep at r
  obtain ⟨a,vs,rfl,sq,_⟩:=r
  cases ru
  obtain ⟨its,_,⟨o,h1,h2,_⟩,_⟩:=I.tuple sq
  exact PySem.W.kia_one PySem.W.kitx_tuple I.kIn ⟨o,h1,h2⟩ e (fun z=>nomatch z) h
 | lst xs=>unfold Rep at r;obtain ⟨a,vs,rfl,_,sq,_⟩:=r;exact dz I ru (.lst sq) e h
 | fz xs =>
  unfold Rep at r
  obtain ⟨a,vs,rfl,sq,_⟩:=r
  cases ru
  obtain ⟨its,_,⟨o,n,h1,h2,_⟩,_⟩:=I.list sq.seq
  exact PySem.W.kia_one PySem.W.kitx_list I.kIn ⟨o,h1,h2⟩ e (fun z=>nomatch z) h
 | dct ks xs=>unfold Rep at r;obtain ⟨a,vs,rfl,_,sq,_⟩:=r;exact dz I ru (.dK sq) e h
 | fd ks xs =>
  unfold Rep at r
  obtain ⟨a,vs,o,rfl,sq,_⟩:=r
  cases ru
  obtain ⟨_,_,va,_,da⟩:=iZ I.hok (.inr ⟨o,sq⟩)
  obtain ⟨o2,h1,h2⟩:=da.typeIs
  exact PySem.W.kia_one PySem.W.kitx_dict I.kIn ⟨o2,h1,h2⟩ e (fun z=>nomatch z) h
 | fo o ks xs =>
  unfold Rep at r
  obtain ⟨a,vs,rfl,sq,_⟩:=r
  cases ru
  obtain ⟨_,_,va,_,da⟩:=iZ I.hok (.inr ⟨o,sq⟩)
  obtain ⟨o2,h1,h2⟩:=da.typeIs
  exact PySem.W.kia_one PySem.W.kitx_dict I.kIn ⟨o2,h1,h2⟩ e (fun z=>nomatch z) h
def dIsi (T:String) (t:TDE):TDE:=fun δ R=>t δ (wd fun x δ1=>R (.d (.bl (isT T (tyN x)))) δ1)
def rIsi (K:PySem.W.Frag) (T:String):List V→Hp→VK→Prop:=fun xs H Q=>∃ x M d,xs=[x,.ty T]∧Rep K M H d x∧Q (.bl (isT T (tyN d))) H
theorem uq {T:String} (ht:qK T):cj X (.builtin "isinstance") (rIsi X.K T):=by
 intro pins s σ H xs us Q I r h
 obtain ⟨x,M,d,rfl,rx,q⟩:=h
 obtain ⟨u,w',rfl,ru,rw'⟩:=AU r
 cases rw'
 exact Ck I rx ru ht fun tk=>⟨.bl _,H,I.tok _,rfl,q⟩
theorem me {T:Str} {n:String} {a:Expr} {ta:TDE} {p p2 pos:Pos} (ht:qK n) (hg:Gl X "isinstance") (hm:X.mg "isinstance"=none) (hgT:Gl X T) (hmT:X.mg T=none) (hvT:bootBuiltins T=some (.type n)) (ha:DE X a ta)
  (hnT:T≠"__name__":=by decide) (hdT:(T == ("__debug__":Str))=false:=by decide)
  (he:starEach [a,.Name T p2] X.env=(false,eval a X.env) :: starEach [.Name T p2] X.env:=by rfl) (he2:starEach [.Name T p2] X.env=(false,eval (.Name T p2) X.env) :: starEach [] X.env:=by rfl) (hpl:(backTo pos (starEach [.Name T p2] X.env)).any (·.1)=false:=by rfl) :
  DE X (.Call (.Name "isinstance" p) [a,.Name T p2] [] pos) (dIsi n ta) :=
 PE.imp (kc (uq ht) hg hm lQ (bQ ha (bQ (xg (v:=.ty n) hgT hmT hvT rfl hnT hdT) eR he2) he) (by decide) (by decide) he hpl) fun σ H Q ⟨G,δ,P,R,s,h,k,_⟩=>up.mk s h fun d δ1 h1 v H1 s1=>by
  obtain ⟨A,q⟩:=id s1
  exact⟨v,_,d,rfl,q.pnd (d,v) (by simp),k _ δ1 h1 _ H1 ((s1.sub (P':=P) fun p hp=>CL _ hp).sc rfl)⟩
theorem Bj:qK "int":=fun K n hn=>by
 simp only [CQ,List.not_mem_nil,or_false] at hn
 rcases hn with rfl | rfl | rfl | rfl | rfl | rfl | rfl<;>with_unfolding_all rfl
theorem wO:qK "bool":=fun K n hn=>by
 simp only [CQ,List.not_mem_nil,or_false] at hn
 rcases hn with rfl | rfl | rfl | rfl | rfl | rfl | rfl<;>with_unfolding_all rfl
theorem j6:qK "tuple":=fun K n hn=>by
 simp only [CQ,List.not_mem_nil,or_false] at hn
 rcases hn with rfl | rfl | rfl | rfl | rfl | rfl | rfl<;>with_unfolding_all rfl
end
end DL
namespace DL
open PySem PySem.Spec PyProof.Rows L2
section
variable {K:PySem.W.Frag} {G:Gf} {A A':Addr→Prop} {δ:List Sl} {P P':List (D×V)} {σ:L2.St} {H H':Hp}
theorem Sx.addA {p:Addr} (s:Sx K G A δ P σ H) (hn:H p=none) (hs:Same H H') (hp:H' p≠none):Sx K G (fun b=>A b∨b=p) δ P σ H':=by
 have x:=s.same hs
 have hM:∀ b,(G.M0 b∨(A b∨b=p))→(G.M0 b∨A b)∨H b=none:=fun b h=>by
  rcases h with h | h | h
  ·exact .inl (.inl h)
  ·exact .inl (.inr h)
  ·subst h;exact .inr hn
 have up:∀ d v,Rep K (fun b=>G.M0 b∨A b) H d v→Rep K (fun b=>G.M0 b∨(A b∨b=p)) H' d v:=fun d v r=>Rep.kp (Kp.of_same hs) _ _ (Rep.more hM _ _ r)
 have h0:G.H0 p=none:=by
  cases q:G.H0 p with
  | none=>rfl
  | some o=>exact absurd hn (s.stay p (by rw [q];exact fun z=>nomatch z))
 refine⟨x.old,x.stay,x.m0,x.pm,fun b h=>h.elim (s.new b) fun e=>.inl (by rw [e];exact h0),fun b h=>h.elim (x.thr b) fun e=>by rw [e];exact hp,s.len,fun j d' e=>?_,fun j b d' e=>?_,s.inj,fun q hq=>up _ _ (s.pnd q hq)⟩
 ·obtain ⟨v,q,r⟩:=s.dat j d' e
  exact⟨v,q,up _ _ r⟩
 ·obtain ⟨q,r,o⟩:=s.own j b d' e
  refine⟨q,.inl r,bH.kp (Kp.of_same hs) ?_ (bH.more hM o)⟩
  cases z:H b with
  | none=>exact absurd z (s.thr b r)
  | some o'=>exact hs b o' z
theorem Sx.subA (s:Sx K G A δ P σ H) (hA:∀ b,A' b→A b) (ho:∀ (i:Nat) a d,δ[i]?=some (.own a d)→A' a):Sx K G A' δ P σ H:=by
 have hM:∀ b,(G.M0 b∨A' b)→(G.M0 b∨A b)∨H b=none:=fun b h=>.inl (h.elim .inl fun z=>.inr (hA b z))
 exact⟨s.old,s.stay,s.m0,s.pm,fun b h=>s.new b (hA b h),fun b h=>s.thr b (hA b h),s.len,fun i d e=>let ⟨v,q,r⟩:=s.dat i d e;⟨v,q,Rep.more hM _ _ r⟩,fun i a d e=>let ⟨q,_,o⟩:=s.own i a d e;⟨q,ho i a d e,bH.more hM o⟩,s.inj,
  fun p hp=>Rep.more hM _ _ (s.pnd p hp)⟩
theorem Sx.poke {p:Addr} {vs ws:List V} (s:Sx K G A δ P σ H) (hp:A p) (hv:H p=some (.lst vs)) (hno:∀ (i:Nat) d,δ[i]?≠some (.own p d)):Sx K G A δ P σ (upd H p (.lst ws)):=by
 have hk:∀ b o,b≠p→H b=some o→upd H p (.lst ws) b=some o:=fun b o n e=>by rw [aO n];exact e
 have kp:Kp (fun b=>G.M0 b∨A b) H (upd H p (.lst ws)):=⟨fun b o e n=>hk b o (fun z=>n (.inr (by rw [z];exact hp))) e,fun b xs e=>hk b _ (fun z=>by rw [z,hv] at e;cases e) e,fun b o u e=>hk b _ (fun z=>by rw [z,hv] at e;cases e) e⟩
 have stay:∀ b,H b≠none→upd H p (.lst ws) b≠none:=fun b e=>by
  by_cases z:b=p
  ·rw [z,aI];exact fun z=>nomatch z
  ·rw [aO z];exact e
 have na:∀ b o,G.H0 b=some o→¬ G.Pm b→b≠p:=fun b o e n z=>(s.new p hp).elim (fun q=>by rw [z] at e;rw [e] at q;cases q) fun q=>n (by rw [z];exact q)
 refine⟨fun b o e n=>hk b o (na b o e n) (s.old b o e n),fun b e=>stay b (s.stay b e),s.m0,s.pm,s.new,fun b e=>stay b (s.thr b e),s.len,fun i d e=>let ⟨v,q,r⟩:=s.dat i d e;⟨v,q,Rep.kp kp _ _ r⟩,fun i a d e=>?_,s.inj,fun q hq=>Rep.kp kp _ _ (s.pnd q hq)⟩
 obtain ⟨q,r,o⟩:=s.own i a d e
 have ne:a≠p:=fun z=>by subst z;exact hno i d e
 exact⟨q,r,bH.kp kp (by rw [aO ne]) o⟩
end
def capO:Option Sl→Sl
 | some (.dat d)=>.dat d
 | _=>.no
def capL (caps:List (Nat×Str)) (δ:En):En:=caps.map fun p=>capO δ[p.1]?
def oS:Option D→Sl
 | none=>.no
 | some d=>.dat d
def allT:Nat→(List Sl→Prop)→Prop
 | 0,p=>p []
 | n + 1,p=>∀ t:Option D,allT n fun ts=>p (oS t :: ts)
def okT:Nat→En→En→Prop
 | 0,δ,c=>δ=c
 | n + 1,.dat _ :: r,c=>okT n r c
 | _ + 1,_,_=>False
abbrev TDC:=En→(List D→En→Prop)→Prop
def xE (src:TDC) (nt:Nat) (caps:List (Nat×Str)) (g:TDG) (tc:TDT) (te:TDE):TDE:=fun δ R=>src δ fun xs δ1=>xs.length≤9000∧∃ f:D→Option D,
 (∀ x∈xs,allT nt fun ts=>g x (ts++capL caps δ1) fun δ2=>tc δ2 fun b δ3=>if b=true then te δ3 (wd fun y δ4=>okT nt δ4 (capL caps δ1)∧f x=some y) else okT nt δ3 (capL caps δ1)∧f x=none)∧R (.d (.lst (xs.filterMap f))) δ1
theorem pc:∀ {n:Nat} {p:List Sl→Prop},allT n p→∀ ts:List (Option D),ts.length=n→p (ts.map oS)
 | 0,p,h,ts,e=>by rw [List.length_eq_zero_iff.mp e];exact h
 | n + 1,p,h,[],e=>by cases e
 | n + 1,p,h,t :: ts,e=>pc (h t) ts (Nat.succ.inj e)
theorem mN:∀ {n:Nat} {δ c:En},okT n δ c→∃ ts:List (Option D),ts.length=n∧δ=ts.map oS++c
 | 0,δ,c,h=>⟨[],rfl,h⟩
 | n + 1,[],c,h=>h.elim
 | n + 1,.dat d :: r,c,h=>by
  obtain ⟨ts,e,q⟩:=mN (n:=n) (δ:=r) h
  exact⟨some d :: ts,by rw [CZ,e],by rw [q];rfl⟩
 | n + 1,.no :: r,c,h=>h.elim
 | n + 1,.own _ _ :: r,c,h=>h.elim
section
variable {K:PySem.W.Frag} {G:Gf} {δ:List Sl} {P:List (D×V)} {σ:L2.St}
theorem vP {caps:List (Nat×Str)} {i:Nat} {d:D} (e:(capL caps δ)[i]?=some (.dat d)):∃ p,caps[i]?=some p∧δ[p.1]?=some (.dat d):=by
 unfold capL at e
 rw [C0] at e
 cases hc:caps[i]? with
 | none=>rw [hc] at e;cases e
 | some p =>
  rw [hc] at e
  refine⟨p,rfl,?_⟩
  have e:=Option.some.inj e
  cases q:δ[p.1]? with
  | none=>simp [q,capO] at e
  | some z =>
   cases z with
   | dat d'=>simp only [q,capO] at e;cases e;rfl
   | no=>simp [q,capO] at e
   | own _ _=>simp [q,capO] at e
theorem kY {caps:List (Nat×Str)} {i:Nat} {a:Addr} {d:D} (e:(capL caps δ)[i]?=some (.own a d)):False:=by
 unfold capL at e
 rw [C0] at e
 cases hc:caps[i]? with
 | none=>rw [hc] at e;cases e
 | some p =>
  rw [hc] at e
  have e:=Option.some.inj e
  cases q:δ[p.1]? with
  | none=>simp [q,capO] at e
  | some z=>cases z<;>simp [q,capO] at e
theorem BU {A:Addr→Prop} {nt:Nat} {caps:List (Nat×Str)} {H:Hp} (s:Sx K G A δ P σ H):Sx K ⟨fun b=>G.M0 b∨A b,H,fun _=>False⟩ (fun _=>False) ((List.replicate nt none).map oS++capL caps δ) [] (capS nt caps σ) H:=by
 have hM:∀ b,((G.M0 b∨A b)∨False)→(G.M0 b∨A b)∨H b=none:=fun b h=>h.elim .inl fun z=>z.elim
 have hr:(List.replicate nt none).map oS=List.replicate nt Sl.no:=by rw [List.map_replicate];rfl
 rw [hr]
 refine⟨fun b o e _=>e,fun b e=>e,s.mem,fun b h=>h.elim,fun b h=>h.elim,fun b h=>h.elim,?_,fun i d e=>?_,fun i a d e=>?_,fun i j a d e h1 _=>?_,fun p hp=>(nomatch hp)⟩
 ·unfold capL capS
  rw [CW,CW,C6,C6,CK,CK]
 ·by_cases hi:i < nt
  ·rw [C9 (by rw [C6];exact hi),List.getElem?_replicate,if_pos hi] at e
   cases e
  ·rw [C8 (by rw [C6];omega),C6] at e
   obtain ⟨p,hp,hd⟩:=vP e
   obtain ⟨v,q,r⟩:=s.dat _ _ hd
   refine⟨v,?_,Rep.more hM _ _ r⟩
   unfold capS
   rw [C8 (by rw [C6];omega),C6,C0,hp]
   show some ((σ[p.1]?).join)=_
   rw [q]
   rfl
 all_goals
  exfalso
 ·by_cases hi:i < nt
  ·rw [C9 (by rw [C6];exact hi),List.getElem?_replicate,if_pos hi] at e
   cases e
  ·rw [C8 (by rw [C6];omega)] at e
   exact kY e
 ·by_cases hi:i < nt
  ·rw [C9 (by rw [C6];exact hi),List.getElem?_replicate,if_pos hi] at h1
   cases h1
  ·rw [C8 (by rw [C6];omega)] at h1
   exact kY h1
theorem wy {ts:List (Option D)} {caps:List (Nat×Str)} {i:Nat} {a:Addr} {d:D} (e:(ts.map oS++capL caps δ)[i]?=some (.own a d)):False:=by
 by_cases hi:i < ts.length
 ·rw [C9 (by rw [CK];exact hi),C0] at e
  cases hc:ts[i]? with
  | none=>rw [hc] at e;cases e
  | some o =>
   rw [hc] at e
   cases o<;>cases e
 ·rw [C8 (by rw [CK];omega)] at e
  exact kY e
theorem re_S {M:Addr→Prop} {A2:Addr→Prop} {ts:List (Option D)} {caps:List (Nat×Str)} {H H5 H6:Hp} {P2:List (D×V)} {σ2:L2.St} (s:Sx K ⟨M,H,fun _=>False⟩ A2 (ts.map oS++capL caps δ) P2 σ2 H5) (k:Kp M H5 H6) (hm:∀ b,M b→H6 b≠none) :
  Sx K ⟨M,H6,fun _=>False⟩ (fun _=>False) (ts.map oS++capL caps δ) [] σ2 H6:=by
 have hM:∀ b,(M b∨False)→(M b∨A2 b)∨H5 b=none:=fun b h=>.inl (h.elim .inl fun z=>z.elim)
 have k':Kp (fun b=>M b∨False) H5 H6:=⟨fun b o e n=>k.un b o e fun z=>n (.inl z),k.tu,k.fr⟩
 exact⟨fun b o e _=>e,fun b e=>e,hm,fun b h=>h.elim,fun b h=>h.elim,fun b h=>h.elim,s.len,fun i d e=>let ⟨v,q,r⟩:=s.dat i d e;⟨v,q,Rep.kp k' _ _ (Rep.more hM _ _ r)⟩,fun i a d e=>(wy e).elim,
  fun i j a d e h1 _=>(wy h1).elim,fun p hp=>(nomatch hp)⟩
theorem jq {xs:List D} {f:D→Option D} {i:Nat} {x:D} (h:xs[i]?=some x):(xs.take (i + 1)).filterMap f=(xs.take i).filterMap f++(match f x with | some y=>[y] | none=>[]):=by
 rw [List.take_add_one,h,List.filterMap_append]
 cases e:f x<;>simp [e]
theorem jV {J:It} {xs:List D} {f:D→Option D} {nt:Nat} {caps:List (Nat×Str)} {g:TDG} {tc:TDT} {te:TDE} {H1:Hp} {Q:VK} (s:S K G δ P σ H1) (hz:xs.length≤9000)
  (hgo:∀ A i H,Sx K G A δ P σ H→i < xs.length→J.go i H) (hst:∀ A H,Sx K G A δ P σ H→J.stop xs.length H)
  (hyl:∀ A i x H H2,Sx K G A δ P σ H→i < xs.length→J.yld i H x H2→Same H H2∧∃ d,xs[i]?=some d∧Rep K (fun b=>G.M0 b∨A b) H2 d x)
  (hf:∀ x∈xs,allT nt fun ts=>g x (ts++capL caps δ) fun δ2=>tc δ2 fun b δ3=>if b=true then te δ3 (wd fun y δ4=>okT nt δ4 (capL caps δ)∧f x=some y) else okT nt δ3 (capL caps δ)∧f x=none)
  (p:Addr) (hp:H1 p=none) (k:∀ (A:Addr→Prop) acc H',¬ (G.M0 p∨A p)→(∀ (i:Nat) a d,δ[i]?=some (.own a d)→A a)→Sx K G (fun b=>A b∨b=p) δ P σ H'→H' p=some (.lst acc)→Reps K (fun b=>G.M0 b∨(A b∨b=p)) H' (xs.filterMap f) acc→Q (.ref p) H') :
  ∃ W:Nat→Nat→List V→L2.St→Hp→Prop,(∃ m,W 0 m [] (capS nt caps σ) (upd H1 p (.lst [])))∧∀ i m acc σ' H',W i m acc σ' H'→(J.stop i H'∧Q (.ref p) H')∨(J.go i H'∧∀ x H2,J.yld i H' x H2 →
   upG K g x σ' H2 fun σ2 H3=>upT K tc σ2 H3 fun b H4=>if b=true then up K te σ2 H4 fun y H5=>H5 p=some (.lst acc)∧acc.length < sizeLine∧∃ m',m' < m∧W (i + 1) m' (acc++[y]) σ2 (upd H5 p (.lst (acc++[y]))) else ∃ m',m' < m∧W (i + 1) m' acc σ2 H4):=by
 obtain ⟨A0,x0⟩:=s
 have hA0:¬ (G.M0 p∨A0 p):=fun z=>x0.mem p z hp
 have hno:∀ (i:Nat) d,δ[i]?≠some (.own p d):=fun i d e=>hA0 (.inr (x0.own i p d e).2.1)
 have x1:=x0.addA hp (aJ hp (.lst [])) (by rw [aI];exact fun z=>nomatch z)
 refine⟨fun i m acc σ' H'=>i≤xs.length∧m=xs.length - i∧acc.length≤i∧H' p=some (.lst acc)∧Sx K G (fun b=>A0 b∨b=p) δ P σ H'∧Reps K (fun b=>G.M0 b∨(A0 b∨b=p)) H' ((xs.take i).filterMap f) acc ∧
  ∃ ts:List (Option D),ts.length=nt∧Sx K ⟨fun b=>G.M0 b∨(A0 b∨b=p),H',fun _=>False⟩ (fun _=>False) (ts.map oS++capL caps δ) [] σ' H',⟨xs.length,Nat.zero_le _,rfl,Nat.le_refl _,aI,x1,by rw [List.take_zero];exact Reps.nil,List.replicate nt none,C6,BU x1⟩,?_⟩
 rintro i m acc σ' H' ⟨hi,rfl,hal,hac,x,rs,ts,hts,sx⟩
 by_cases hlt:i < xs.length
 ·refine .inr ⟨hgo _ i H' x hlt,fun v H2 hy=>?_⟩
  obtain ⟨sm0,d,hd,rd⟩:=hyl _ i v H' H2 x hlt hy
  replace sx:=re_S sx (Kp.of_same sm0) (x.same sm0).mem
  replace x:=x.same sm0
  replace hac:=sm0 _ _ hac
  replace rs:=Reps.kp (Kp.of_same sm0) _ _ rs
  clear sm0 hy
  have hmem:d∈xs:=C1 hd
  refine⟨_,ts.map oS++capL caps δ,[],d,_,⟨_,sx.push (Rep.more (fun b z=>.inl (z.elim id fun q=>q.elim)) _ _ rd)⟩,pc (hf d hmem) ts hts,fun δ2 h2 σ2 H3 s2=>?_⟩
  refine⟨_,_,[],_,s2,h2,fun b δ3 h3 H4 s3=>?_⟩
  have fmS:=jq (f:=f) hd
  have hM1:∀ b,(G.M0 b∨(A0 b∨b=p))→H2 b≠none:=x.mem
  cases b with
  | false =>
   obtain ⟨ok3,hn⟩:=h3
   rw [hn,List.append_nil] at fmS
   obtain ⟨ts3,hts3,e3⟩:=mN ok3
   subst e3
   obtain ⟨A3,y3⟩:=s3
   have sm:Same H2 H4:=fun b o e=>y3.old b o e id
   have x4:=x.same sm
   exact⟨xs.length - (i + 1),by omega,hlt,rfl,by omega,sm _ _ hac,x4,by rw [fmS];exact Reps.kp (Kp.of_same sm) _ _ rs,ts3,hts3,re_S y3 Kp.refl x4.mem⟩
  | true =>
   refine up.mk (P:=[]) s3 h3 fun y δ4 h4 yv H5 s4=>?_
   obtain ⟨ok4,hy⟩:=h4
   rw [hy] at fmS
   obtain ⟨ts4,hts4,e4⟩:=mN ok4
   subst e4
   obtain ⟨A4,y4⟩:=s4
   have sm:Same H2 H5:=fun b o e=>y4.old b o e id
   have x5:=x.same sm
   have hac5:=sm _ _ hac
   have ry:Rep K (fun b=>G.M0 b∨(A0 b∨b=p)) H5 y yv:=Rep.more (fun b z=>.inl (.inl z)) _ _ (y4.pnd (y,yv) (by simp))
   have x6:=x5.poke (p:=p) (ws:=acc++[yv]) (.inr rfl) hac5 hno
   have kp:Kp (fun b=>G.M0 b∨(A0 b∨b=p)) H5 (upd H5 p (.lst (acc++[yv]))):=by
    have hk:∀ b o,b≠p→H5 b=some o→upd H5 p (.lst (acc++[yv])) b=some o:=fun b o n e=>by rw [aO n];exact e
    exact⟨fun b o e n=>hk b o (fun z=>n (.inr (.inr z))) e,fun b xs e=>hk b _ (fun z=>by rw [z,hac5] at e;cases e) e,fun b o u e=>hk b _ (fun z=>by rw [z,hac5] at e;cases e) e⟩
   refine⟨hac5,Nat.lt_of_le_of_lt (CN hal hi) (iD hz),xs.length - (i + 1),by omega,hlt,rfl,by rw [CW,List.length_singleton];omega,aI,x6,?_,ts4,hts4,re_S y4 kp x6.mem⟩
   rw [fmS]
   exact Reps.kp kp _ _ (Reps.append _ _ _ _ (Reps.kp (Kp.of_same sm) _ _ rs) (Reps.one ry))
 ·have e:i=xs.length:=by omega
  subst e
  rw [C4] at rs
  exact .inl ⟨hst _ H' x,k A0 acc H' hA0 (fun i a d e=>(x0.own i a d e).2.1) x hac rs⟩
theorem lX {J:It} {xs:List D} {f:D→Option D} {nt:Nat} {caps:List (Nat×Str)} {g:TDG} {tc:TDT} {te:TDE} {H1:Hp} {Q:VK} (s:S K G δ P σ H1) (hz:xs.length≤9000)
  (hgo:∀ A i H,Sx K G A δ P σ H→i < xs.length→J.go i H) (hst:∀ A H,Sx K G A δ P σ H→J.stop xs.length H)
  (hyl:∀ A i x H H2,Sx K G A δ P σ H→i < xs.length→J.yld i H x H2→Same H H2∧∃ d,xs[i]?=some d∧Rep K (fun b=>G.M0 b∨A b) H2 d x)
  (hf:∀ x∈xs,allT nt fun ts=>g x (ts++capL caps δ) fun δ2=>tc δ2 fun b δ3=>if b=true then te δ3 (wd fun y δ4=>okT nt δ4 (capL caps δ)∧f x=some y) else okT nt δ3 (capL caps δ)∧f x=none)
  (k:∀ v H',S K G δ ((.lst (xs.filterMap f),v) :: P) σ H'→Q v H') (p:Addr) (hp:H1 p=none) :
  ∃ W:Nat→Nat→List V→L2.St→Hp→Prop,(∃ m,W 0 m [] (capS nt caps σ) (upd H1 p (.lst [])))∧∀ i m acc σ' H',W i m acc σ' H'→(J.stop i H'∧Q (.ref p) H')∨(J.go i H'∧∀ x H2,J.yld i H' x H2 →
   upG K g x σ' H2 fun σ2 H3=>upT K tc σ2 H3 fun b H4=>if b=true then up K te σ2 H4 fun y H5=>H5 p=some (.lst acc)∧acc.length < sizeLine∧∃ m',m' < m∧W (i + 1) m' (acc++[y]) σ2 (upd H5 p (.lst (acc++[y]))) else ∃ m',m' < m∧W (i + 1) m' acc σ2 H4) :=
 jV s hz hgo hst hyl hf p hp fun A acc H' hA ho x hac rs=>k (.ref p) H' ⟨A,(x.subA (fun b z=>.inl z) ho).push (by
  unfold Rep
  exact⟨p,acc,rfl,hA,hac,Reps.more (fun b z=>.inl (z.elim .inl fun q=>.inr (.inl q))) _ _ rs⟩)⟩
end
def BA (t:TDE):TDC:=fun δ R=>t δ (wd fun d δ1=>∃ xs,d=.lst xs∧R xs δ1)
def AG (t:TDE):TDC:=fun δ R=>t δ (wd fun d δ1=>∃ xs,d=.tup xs∧R xs δ1)
def BI (t:TDA):TDC:=fun δ R=>t δ fun ds δ1=>∃ j:Int,ds=[.int j]∧-(2 ^ 62)≤j∧j < 2 ^ 62∧R ((List.range j.toNat).map fun (i:Nat)=>D.int (i:Int)) δ1
def CI (X:Cx) (tg it:Expr) (src:TDC):Prop:=∃ wi,PI X tg it wi∧∀ (G:Gf) (δ:En) (P:List (D×V)) (σ:L2.St) (H:Hp) (R:List D→En→Prop) (Q:It→Hp→Prop),S X.K G δ P σ H→src δ R →
  (∀ xs δ1,R xs δ1→∀ (J:It) (P1:List (D×V)) (H1:Hp),(∀ q∈P,q∈P1)→S X.K G δ1 P1 σ H1→(∀ A δ σ i H,Sx X.K G A δ P1 σ H→i < xs.length→J.go i H)→(∀ A δ σ H,Sx X.K G A δ P1 σ H→J.stop xs.length H) →
    (∀ A δ σ i x H H2,Sx X.K G A δ P1 σ H→i < xs.length→J.yld i H x H2→Same H H2∧∃ d,xs[i]?=some d∧Rep X.K (fun b=>G.M0 b∨A b) H2 d x)→Q J H1)→wi σ H Q
section
variable {X:Cx} {tg e:Expr} {te:TDE} {ta:TDA}
theorem fP (h:DE X e te):CI X tg e (BA te):=⟨_,t5 h,fun G δ P σ H R Q s hs k=>up.mk s hs fun d δ1 h1 v H1 s1=>by
 obtain ⟨xs,e,r⟩:=h1
 subst e
 have hat:∀ A δ σ H,Sx X.K G A δ ((.lst xs,v) :: P) σ H→∃ a vs,v=.ref a∧H a=some (.lst vs)∧Reps X.K (fun b=>G.M0 b∨A b) H xs vs:=fun A δ σ H x=>by
  have q:=x.pnd (.lst xs,v) (by simp)
  unfold Rep at q
  obtain ⟨a,vs,e,_,l,r⟩:=q
  exact⟨a,vs,e,l,r⟩
 obtain ⟨A1,x1⟩:=id s1
 obtain ⟨a,vs0,rfl,l0,_⟩:=hat _ _ _ _ x1
 refine⟨a,rfl,⟨vs0,SqL.of l0⟩,k xs δ1 r _ _ H1 (fun q hq=>by simp [hq]) s1 (fun A δ σ i H x hi=>?_) (fun A δ σ H x=>?_) fun A δ σ i y H H2 x hi hy=>?_⟩
 ·obtain ⟨b,vs,e,l,r⟩:=hat _ _ _ _ x
  cases e
  obtain ⟨w',hw,_⟩:=Reps.get _ _ r i xs[i] (by simp [hi])
  exact⟨vs,w',SqL.of l,hw⟩
 ·obtain ⟨b,vs,e,l,r⟩:=hat _ _ _ _ x
  cases e
  exact⟨vs,SqL.of l,by rw [Reps.length _ _ r];exact Nat.le_refl _⟩
 ·obtain ⟨b,vs,e,l,r⟩:=hat _ _ _ _ x
  cases e
  obtain ⟨e,hy⟩:=hy
  obtain ⟨w',hw,rw'⟩:=Reps.get _ _ r i xs[i] (by simp [hi])
  have z:=hy vs (SqL.of l)
  rw [hw] at z
  cases z
  subst e
  exact⟨Same.refl _,xs[i],by simp [hi],rw'⟩⟩
theorem lH (h:DE X e te):CI X tg e (AG te):=⟨_,wp h,fun G δ P σ H R Q s hs k=>up.mk s hs fun d δ1 h1 v H1 s1=>by
 obtain ⟨xs,e,r⟩:=h1
 subst e
 have hat:∀ A δ σ H,Sx X.K G A δ ((.tup xs,v) :: P) σ H→∃ a vs,v=.ref a∧SqT X.K H a vs∧Reps X.K (fun b=>G.M0 b∨A b) H xs vs:=fun A δ σ H x=>by
  have q:=x.pnd (.tup xs,v) (by simp)
  unfold Rep at q
  exact q
 obtain ⟨A1,x1⟩:=id s1
 obtain ⟨a,vs0,rfl,l0,_⟩:=hat _ _ _ _ x1
 refine⟨a,rfl,⟨vs0,l0⟩,k xs δ1 r _ _ H1 (fun q hq=>by simp [hq]) s1 (fun A δ σ i H x hi=>?_) (fun A δ σ H x=>?_) fun A δ σ i y H H2 x hi hy=>?_⟩
 ·obtain ⟨b,vs,e,l,r⟩:=hat _ _ _ _ x
  cases e
  obtain ⟨w',hw,_⟩:=Reps.get _ _ r i xs[i] (by simp [hi])
  exact⟨vs,w',l,hw⟩
 ·obtain ⟨b,vs,e,l,r⟩:=hat _ _ _ _ x
  cases e
  exact⟨vs,l,by rw [Reps.length _ _ r];exact Nat.le_refl _⟩
 ·obtain ⟨b,vs,e,l,r⟩:=hat _ _ _ _ x
  cases e
  obtain ⟨e,hy⟩:=hy
  obtain ⟨w',hw,rw'⟩:=Reps.get _ _ r i xs[i] (by simp [hi])
  have z:=hy vs l
  rw [hw] at z
  cases z
  subst e
  exact⟨Same.refl _,xs[i],by simp [hi],rw'⟩⟩
theorem kl {a:Expr} {p pos:Pos} (hg:Gl X "range") (hm:X.mg "range"=none) (ha:DA X [a] ta) (hs:starEach [a] X.env=[(false,eval a X.env)]:=by rfl):CI X tg (.Call (.Name "range" p) [a] [] pos) (BI ta) :=
 ⟨_,lZ hg hm ha hs,fun G δ P σ H R Q s hs k=>⟨G,δ,P,_,s,hs,fun ds δ1 h1 vs H1 hl s1=>by
  obtain ⟨j,e,h1,h2,r⟩:=h1
  subst e
  match vs,hl with
  | [v],_ =>
   have q:v=.int j:=by
    obtain ⟨A,x⟩:=s1
    exact aT (x.pnd (.int j,v) (by simp))
   subst q
   refine⟨j,rfl,h1,h2,k _ δ1 r _ P H1 (fun q hq=>hq) (s1.sub fun p hp=>by simp [hp]) (fun A δ σ i H x hi=>?_) (fun A δ σ H x=>?_) fun A δ σ i y H H2 x hi hy=>?_⟩
   ·rw [CK,List.length_range] at hi
    exact hi
   ·rw [CK,List.length_range]
    exact Nat.le_refl _
   ·rw [CK,List.length_range] at hi
    obtain ⟨e,hy⟩:=hy
    subst e
    refine⟨Same.refl _,.int i,by rw [C0,List.getElem?_range hi];rfl,?_⟩
    unfold Rep
    rw [hy,Int.zero_add]⟩⟩
def DF (X:Cx) (ifs:List Expr) (t:TDT):Prop:=PF X ifs (upT X.K t)
theorem dQ:DF X [] (fun δ R=>R true δ):=fun pins s σ H Q I h_0=>by obtain ⟨G,δ,P,R,s',h,k⟩:=h_0;exact zY pins s σ H Q I (k true δ h H s')
theorem gY {c:Expr} {t:TDT} (h:DT X c t):DF X [c] t:=Bd h
theorem cy {elt tgt iter:Expr} {ifs:List Expr} {scope:Scope} {pos:Pos} {src:TDC} {cl:List (Str×Addr)} (tn:List Str) (caps:List (Nat×Str)) {g:TDG} {tc:TDT}
  (hcalm:X.calm=true) (hclos:closureFor scope X.env=pure cl) (hcell:∀ y∈scope.names,y.2≠.cell) (hkind:scope.kind=.function) (hnames:∀ y∈scope.names,y.2=.local→scope.names.lookup y.1=some .local)
  (hcl:∀ x c,cl.lookup x=some c→X.env.cells.lookup x=some c) (hhas:∀ x,((relabel scope X.env).names.lookup x=some .cell∨(relabel scope X.env).names.lookup x=some .free)→∃ c,cl.lookup x=some c)
  (hcap:∀ p∈caps,X.N[p.1]?=some p.2∧X.env.scope.names.lookup p.2=some .cell∧((relabel scope X.env).names.lookup p.2=some .cell∨(relabel scope X.env).names.lookup p.2=some .free))
  (hi:CI X.nox tgt iter src)
  (hb:∀ s2 H2 C fp pn,DG (dM X (tn++caps.map (·.2)) scope cl s2 H2 C fp pn) tgt g∧DF (dM X (tn++caps.map (·.2)) scope cl s2 H2 C fp pn) ifs tc∧DE (dM X (tn++caps.map (·.2)) scope cl s2 H2 C fp pn) elt te)
  (hs:∀ x,foldedSetIterable iter X.env x=pure x:=by intro _;rfl):DE X.nox (.ListComp elt [⟨tgt,iter,ifs,0⟩] scope pos) (xE src tn.length caps g tc te):=by
 obtain ⟨wi,hi,hw⟩:=hi
 refine PE.imp (xp (g:=upG X.K g) (tc:=upT X.K tc) (te:=up X.K te) tn caps hcalm hclos hcell hkind hnames hcl hhas hcap hi hb hs) fun σ H Q h_0=>?_
 obtain ⟨G,δ,P,R,s,h,k,_⟩:=h_0
 refine hw G δ P σ H _ _ s h fun xs δ1 ⟨hz,f,hf,r⟩ J P1 H1 hP s1 hgo hst hyl p hp=>?_
 exact lX s1 hz (fun A i H x hi=>hgo A _ _ i H x hi) (fun A H x=>hst A _ _ H x) (fun A i x H H2 s hi hy=>hyl A _ _ i x H H2 s hi hy) hf (fun v H' s'=>k _ δ1 r v H' (s'.sub fun q hq=>by
  rcases CQ.mp hq with rfl | hq
  ·simp
  ·exact CL _ (hP q hq))) p hp
end
def zP (cells:List (Str×Addr)):List (Str×Addr)→Prop
 | []=>True
 | y :: r=>cells.lookup y.1=some y.2∧zP cells r
theorem bR {cells:List (Str×Addr)}:∀ {cl:List (Str×Addr)},zP cells cl→∀ x c,cl.lookup x=some c→cells.lookup x=some c
 | [],_,x,c,h=>by cases h
 | y :: r,⟨h1,h2⟩,x,c,h=>by
  rw [List.lookup_cons] at h
  cases e:x == y.1 with
  | true =>
   rw [e] at h
   have e:=eq_of_beq e
   cases h
   rw [e]
   exact h1
  | false =>
   rw [e] at h
   exact bR h2 x c h
theorem bZ {names:List (Str×NameKind)} {cl:List (Str×Addr)} (h:(names.all fun y=>!(y.2 == .cell || y.2 == .free) || (cl.lookup y.1).isSome)=true):∀ x,(names.lookup x=some .cell∨names.lookup x=some .free)→∃ c,cl.lookup x=some c:=fun x hx=>by
 have key:∀ (ns:List (Str×NameKind)) k,ns.lookup x=some k→(x,k)∈ns:=fun ns=>by
  induction ns with
  | nil=>intro k h;cases h
  | cons y r ih =>
   intro k h
   rw [List.lookup_cons] at h
   cases e:x == y.1 with
   | true =>
    rw [e] at h
    have e:=eq_of_beq e
    cases h
    rw [e]
    exact CP ..
   | false =>
    rw [e] at h
    exact CL _ (ih k h)
 have go:∀ k,(k=.cell∨k=.free)→names.lookup x=some k→∃ c,cl.lookup x=some c:=fun k hk e=>by
  have m:=key _ _ e
  have q:=List.all_eq_true.mp h _ m
  have hb:((k == NameKind.cell || k == .free))=true:=by rcases hk with rfl | rfl<;>rfl
  simp only [hb,Bool.not_true,Bool.false_or] at q
  exact Option.isSome_iff_exists.mp q
 rcases hx with e | e
 ·exact go _ (.inl rfl) e
 ·exact go _ (.inr rfl) e
def vW (p:Nat×Str→Prop):List (Nat×Str)→Prop
 | []=>True
 | y :: r=>p y∧vW p r
theorem bn {p:Nat×Str→Prop}:∀ {l:List (Nat×Str)},vW p l→∀ y∈l,p y
 | [],_,y,h=>by cases h
 | z :: r,⟨h1,h2⟩,y,h=>by
  rcases CQ.mp h with rfl | h
  ·exact h1
  ·exact bn h2 y h
end DL
namespace DL
open PySem PySem.Spec PyProof.Rows L2
abbrev FO:=D→List D→(D→D→Prop)→Prop
def spO (K:PySem.W.Frag) (f:FO):Sp:=fun vs H Q _=>∃ (M:Addr→Prop) (a:Addr) (d0:D) (vs':List V) (ds:List D) (R:D→D→Prop),vs=.ref a :: vs'∧(∀ b,M b→H b≠none)∧¬ M a∧bH K (fun b=>M b∨b=a) H a d0∧Reps K (fun b=>M b∨b=a) H ds vs'∧f d0 ds R ∧
 ∀ r d1,R r d1→∀ v H',(∀ b o,b≠a→H b=some o→H' b=some o)→bH K (fun b=>M b∨b=a) H' a d1→Rep K (fun b=>M b∨b=a) H' r v→Q v H'
def spO1 (K:PySem.W.Frag) (f:FO):Sp:=fun vs H Q E=>∃ v0 v1,vs=[v0,v1]∧spO K f [v1,v0] H Q E
section
variable {P:Program} {w:World} {K:PySem.W.Frag} {mg:Str→Option Value} {base:Heap}
theorem eJ {x:Str} {st:Stmt} {ps:List Str} {f:List D→(D→Prop)→Prop} (F:Fd K mg x st ps) (k:Nat) (h:∀ ds R,¬ f ds R):Cal P w K mg base k x ps (spD K f):=by
 obtain ⟨a,fd,Fu,b,m⟩:=F.ex
 have no:∀ vs H Q E,¬ spD K f vs H Q E:=fun vs H Q E h_0=>by obtain ⟨_,ds,R,_,_,hf,_⟩:=h_0;exact h ds R hf
 exact⟨a,fd,⟨fun vs H Q E h=>absurd h (no vs H Q E),fun A outer s H args us vs Q E _ _ _ _ h=>absurd h (no vs H Q E)⟩,b,Fu.kp,m⟩
theorem rC {x:Str} {st:Stmt} {ps:List Str} {f:FO} (F:Fd K mg x st ps) (k:Nat) (h:∀ d ds R,¬ f d ds R):Cal P w K mg base k x ps (spO1 K f):=by
 obtain ⟨a,fd,Fu,b,m⟩:=F.ex
 have no:∀ vs H Q E,¬ spO1 K f vs H Q E:=fun vs H Q E h_0=>by obtain ⟨_,_,_,_,_,d0,_,ds,R,_,_,_,_,_,hf,_⟩:=h_0;exact h d0 ds R hf
 exact⟨a,fd,⟨fun vs H Q E h=>absurd h (no vs H Q E),fun A outer s H args us vs Q E _ _ _ _ h=>absurd h (no vs H Q E)⟩,b,Fu.kp,m⟩
theorem oM {M:Addr→Prop} {a:Addr} {d0:D} {ds1 ds2:List D} {vs1 vs2:List V} {H:Hp} (N:List Str) (m:∀ b,M b→H b≠none) (na:¬ M a) (ow:bH K (fun b=>M b∨b=a) H a d0) (r1:Reps K (fun b=>M b∨b=a) H ds1 vs1) (r2:Reps K (fun b=>M b∨b=a) H ds2 vs2) :
  S K ⟨M,H,fun b=>b=a⟩ (ds1.map Sl.dat++Sl.own a d0 :: (ds2.map Sl.dat++List.replicate (N.length - (ds1.length + 1 + ds2.length)) Sl.no)) [] (L2.start N (vs1++.ref a :: vs2)) H:=by
 have hl1:=Reps.length _ _ r1
 have hl2:=Reps.length _ _ r2
 have hHa:H a≠none:=by
  cases d0 with
  | lst ds=>obtain ⟨vs,q,_⟩:=ow;rw [q];exact fun z=>nomatch z
  | dct ks ds=>obtain ⟨vs,q,_⟩:=ow;rw [q];exact fun z=>nomatch z
  | _=>exact ow.elim
 have place:∀ (i:Nat) z,(ds1.map Sl.dat++Sl.own a d0 :: (ds2.map Sl.dat++List.replicate (N.length - (ds1.length + 1 + ds2.length)) Sl.no))[i]?=some z →
   (∃ d,ds1[i]?=some d∧z=.dat d)∨(i=ds1.length∧z=.own a d0)∨(∃ d,ds1.length + 1≤i∧ds2[i - (ds1.length + 1)]?=some d∧z=.dat d)∨z=.no:=fun i z e=>by
  by_cases h1:i < ds1.length
  ·rw [C9 (by rw [CK];exact h1),C0] at e
   cases hd:ds1[i]? with
   | none=>rw [hd] at e;cases e
   | some d=>rw [hd] at e;exact .inl ⟨d,rfl,(Option.some.inj e).symm⟩
  ·rw [C8 (by rw [CK];omega),CK] at e
   by_cases h2:i=ds1.length
   ·subst h2
    rw [Nat.sub_self,List.getElem?_cons_zero] at e
    exact .inr (.inl ⟨rfl,(Option.some.inj e).symm⟩)
   ·have e3:i - ds1.length=(i - (ds1.length + 1)) + 1:=by omega
    rw [e3,List.getElem?_cons_succ] at e
    by_cases h3:i - (ds1.length + 1) < ds2.length
    ·rw [C9 (by rw [CK];exact h3),C0] at e
     cases hd:ds2[i - (ds1.length + 1)]? with
     | none=>rw [hd] at e;cases e
     | some d=>rw [hd] at e;exact .inr (.inr (.inl ⟨d,by omega,rfl,(Option.some.inj e).symm⟩))
    ·rw [C8 (by rw [CK];omega),List.getElem?_replicate] at e
     split at e
     ·exact .inr (.inr (.inr (Option.some.inj e).symm))
     ·cases e
 have st:∀ i,i < (vs1++V.ref a :: vs2).length→(L2.start N (vs1++.ref a :: vs2))[i]?=(vs1++V.ref a :: vs2)[i]?.map some:=fun i hi=>by
  unfold L2.start
  rw [C9 (by rw [CK];exact hi),C0]
 have hM:∀ b,(M b∨b=a)→(M b∨b=a)∨H b=none:=fun b h=>.inl h
 refine⟨fun b=>b=a,fun b o e _=>e,fun b e=>e,m,fun b h=>⟨by rw [h];exact hHa,by rw [h];exact na⟩,fun b h=>.inr h,fun b h=>by rw [h];exact hHa,?_,fun i d e=>?_,fun i a' d e=>?_,fun i j a' d e h1 h2=>?_,fun p hp=>(nomatch hp)⟩
 ·unfold L2.start
  simp only [CW,CK,CZ,C6]
  omega
 ·rcases place i _ e with ⟨d',hd,z⟩ | ⟨_,z⟩ | ⟨d',hi,hd,z⟩ | z
  ·cases z
   obtain ⟨v,ev,rv⟩:=Reps.get _ _ r1 i d hd
   have hi:i < vs1.length:=(CY.mp ev).1
   exact⟨v,by rw [st i (by rw [CW];omega),C9 hi,ev];rfl,rv⟩
  ·cases z
  ·cases z
   obtain ⟨v,ev,rv⟩:=Reps.get _ _ r2 _ d hd
   have hi2:i - (ds1.length + 1) < vs2.length:=(CY.mp ev).1
   refine⟨v,?_,rv⟩
   rw [st i (by rw [CW,CZ];omega),C8 (by omega),← hl1]
   have e3:i - ds1.length=(i - (ds1.length + 1)) + 1:=by omega
   rw [e3,List.getElem?_cons_succ,ev]
   rfl
  ·cases z
 ·rcases place i _ e with ⟨d',hd,z⟩ | ⟨hi,z⟩ | ⟨d',hi,hd,z⟩ | z
  ·cases z
  ·cases z
   subst hi
   refine⟨?_,rfl,ow⟩
   rw [st _ (by rw [CW,CZ];omega),C8 (by omega),hl1,Nat.sub_self]
   rfl
  ·cases z
  ·cases z
 ·have u:∀ i a' d,(ds1.map Sl.dat++Sl.own a d0 :: (ds2.map Sl.dat++List.replicate (N.length - (ds1.length + 1 + ds2.length)) Sl.no))[i]?=some (.own a' d)→i=ds1.length:=fun i a' d e=>by
   rcases place i _ e with ⟨d',hd,z⟩ | ⟨hi,z⟩ | ⟨d',hi,hd,z⟩ | z
   ·cases z
   ·exact hi
   ·cases z
   ·cases z
  rw [u i _ _ h1,u j _ _ h2]
theorem jk {M A':Addr→Prop} {a:Addr} {d:D} {H':Hp} (ha:A' a) (o:bH K (fun b=>M b∨A' b) H' a d):bH K (fun b=>M b∨b=a) H' a d:=bH.more (fun b z=>.inl (z.elim .inl fun e=>.inr (by rw [e];exact ha))) o
theorem fn_O {x:Str} {st:Stmt} {N ps:List Str} {k:Nat} {f:FO} (F:Fd K mg x st ps) (Sc:ax N ps (am st)) (len:∀ d ds R,f d ds R→ds.length + 1=ps.length)
    (hbody:∀ (fa:Addr) (cdv:Value) (A:Around) (outer:List Env) (s:Shared) (H:Hp) (E:XK) (a:Addr) (d0:D) (ds:List D) (R:D→D→Prop),Room k (A.deeper (envOfC x (am st) s.heap.objs.size fa cdv))→f d0 ds R →
      ∃ t,DSs (cxOf CX0 P w K mg base N x (am st) fa cdv A outer s H E).nox (bI st) t ∧
        t { nx:=fun δ=>∃ d1,δ[0]?=some (.own a d1)∧R .non d1,rt:=fun d δ=>∃ d1,δ[0]?=some (.own a d1)∧R d d1 } (Sl.own a d0 :: (ds.map Sl.dat++List.replicate (N.length - (1 + ds.length)) Sl.no))) :
    Cal P w K mg base (k + 1) x ps (spO K f):=by
  obtain ⟨fa,fd,Fu,b,mm⟩:=F.ex
  refine⟨fa,fd,Fu.ok Sc (fun vs H Q E h=>?_) (fun cdv A outer s H vs Q E hr h=>?_),b,Fu.kp,mm⟩
  · obtain ⟨M,a,d0,vs',ds,R,rfl,m,na,ow,rs,hf,hk⟩:=h
    rw [CZ,← Reps.length _ _ rs]
    exact len _ _ _ hf
  · obtain ⟨M,a,d0,vs',ds,R,rfl,m,na,ow,rs,hf,hk⟩:=h
    obtain ⟨t,ht,hq⟩:=hbody fa cdv A outer s H E a d0 ds R hr hf
    have ss:=oM (ds1:=[]) (vs1:=[]) N m na ow Reps.nil rs
    rw [show ([]:List D).length + 1 + ds.length=1 + ds.length by simp] at ss
    refine⟨_,ht,_,_,[],_,ss,hq,fun δ' ⟨d1,e,r⟩ σ' H' ⟨A',x⟩=>?_,⟨fun d δ' ⟨d1,e,r⟩ v σ' H' ⟨A',x⟩=>?_,fun _ h=>h.elim⟩,fun _ h=>h.elim,fun _ h=>h.elim,fun z=>z.elim⟩
    · obtain ⟨_,aa,oo⟩:=x.own 0 a d1 e
      exact hk _ _ r .non H' (fun b o n e=>x.old b o e n) (jk aa oo) (by unfold Rep;rfl)
    · obtain ⟨_,aa,oo⟩:=x.own 0 a d1 e
      exact hk _ _ r v H' (fun b o n e=>x.old b o e n) (jk aa oo) (Rep.more (fun b z=>.inl (z.elim .inl fun e=>.inr (by rw [e];exact aa))) _ _ (x.pnd (d,v) (by simp)))
theorem CH {x:Str} {st:Stmt} {N ps:List Str} {k:Nat} {f:FO} (F:Fd K mg x st ps) (Sc:ax N ps (am st)) (hp:ps.length=2) (len:∀ d ds R,f d ds R→ds.length=1)
    (hbody:∀ (fa:Addr) (cdv:Value) (A:Around) (outer:List Env) (s:Shared) (H:Hp) (E:XK) (a:Addr) (d0 d:D) (R:D→D→Prop),Room k (A.deeper (envOfC x (am st) s.heap.objs.size fa cdv))→f d0 [d] R →
      ∃ t,DSs (cxOf CX0 P w K mg base N x (am st) fa cdv A outer s H E).nox (bI st) t ∧
        t { nx:=fun δ=>∃ d1,δ[1]?=some (.own a d1)∧R .non d1,rt:=fun d δ=>∃ d1,δ[1]?=some (.own a d1)∧R d d1 } (Sl.dat d :: Sl.own a d0 :: List.replicate (N.length - 2) Sl.no)) :
    Cal P w K mg base (k + 1) x ps (spO1 K f):=by
  obtain ⟨fa,fd,Fu,b,mm⟩:=F.ex
  refine⟨fa,fd,Fu.ok Sc (fun vs H Q E h=>?_) (fun cdv A outer s H vs Q E hr h=>?_),b,Fu.kp,mm⟩
  · obtain ⟨v0,v1,rfl,_⟩:=h
    exact hp.symm
  · obtain ⟨v0,v1,rfl,M,a,d0,vs',ds,R,e,m,na,ow,rs,hf,hk⟩:=h
    cases e
    have hl:=len _ _ _ hf
    match ds,hl with
    | [d],_ =>
      obtain ⟨t,ht,hq⟩:=hbody fa cdv A outer s H E a d0 d R hr hf
      have ss:=oM (ds2:=[]) (vs2:=[]) N m na ow rs Reps.nil
      refine⟨_,ht,_,_,[],_,ss,hq,fun δ' ⟨d1,e,r⟩ σ' H' ⟨A',x⟩=>?_,⟨fun d δ' ⟨d1,e,r⟩ v σ' H' ⟨A',x⟩=>?_,fun _ h=>h.elim⟩,fun _ h=>h.elim,fun _ h=>h.elim,fun z=>z.elim⟩
      · obtain ⟨_,aa,oo⟩:=x.own 1 a d1 e
        exact hk _ _ r .non H' (fun b o n e=>x.old b o e n) (jk aa oo) (by unfold Rep;rfl)
      · obtain ⟨_,aa,oo⟩:=x.own 1 a d1 e
        exact hk _ _ r v H' (fun b o n e=>x.old b o e n) (jk aa oo) (Rep.more (fun b z=>.inl (z.elim .inl fun e=>.inr (by rw [e];exact aa))) _ _ (x.pnd (d,v) (by simp)))
end
def zF (i:Nat) (t:TDA):TDS:=fun R δ=>t δ fun ds δ1=>ds.length≤9000∧∀ a,R.nx (δ1.set i (.own a (.lst ds)))
def zL (i:Nat):TDS:=fun R δ=>∀ a,R.nx (δ.set i (.own a (.dct [] [])))
def zw (i:Nat):TDS:=fun R δ=>∃ a d,δ[i]?=some (.own a d)∧R.ro d
def AL (t:TDA):TDS:=fun R δ=>t δ fun ds _=>ds.length≤9000∧R.ro (.lst ds)
def At (i:Nat):TDE:=fun δ R=>∃ a ds,δ[i]?=some (.own a (.lst ds))∧R (.d (.int ds.length)) δ
def rX (i:Nat):TDE:=fun δ R=>∃ a ds,δ[i]?=some (.own a (.lst ds))∧R (.d (.tup ds)) δ
def sM (i:Nat) (t:TDS):TDS:=fun R δ=>∃ a d,δ[i]?=some (.own a d)∧t R (δ.set i (.dat d))
section
variable {X:Cx} {pos:Pos} {a b e:Expr} {es:List Expr} {ta tb:TDE} {t:TDA} {f:List D→(D→Prop)→Prop}
theorem S.ret {K:PySem.W.Frag} {G:Gf} {δ:En} {P:List (D×V)} {σ:L2.St} {H:Hp} {i:Nat} {a:Addr} {d:D} (s:S K G δ P σ H) (e:δ[i]?=some (.own a d)):wx K G H a d:=by
 obtain ⟨A,x⟩:=s
 obtain ⟨_,aa,oo⟩:=x.own i a d e
 exact⟨x.old,x.new a aa,fun z=>(x.new a aa).elim (fun q=>x.m0 a z q) fun q=>(x.pm a q).2 z,jk aa oo⟩
theorem kw (i:Nat) {x:Str} {p:Pos} (hN:X.N[i]?=some x:=by rfl) (hv:Vis X.env.scope x:=by walk_at "v3") (hd:(x == ("__debug__":Str))=false:=by decide)
  (hcd:(x == ("__classdict__":Str))=false:=by decide):DS X (.Return (some (.Name x p)) pos) (zw i) :=
 PS.imp (tO (eA hN hv hd hcd)) fun E σ H h_0=>by obtain ⟨G,δ,P,R,s,⟨a,d,e,r⟩,_,k,_⟩:=h_0;exact⟨.ref a,s.own e,k.2 d r a H (s.ret e)⟩
theorem ds_retL {p:Pos} (h:DA X es t):DS X (.Return (some (.List es p)) pos) (AL t) :=
 PS.imp (tO (tT h)) fun E σ H h_0=>by obtain ⟨G,δ,P,R,s,h,_,k,_⟩:=h_0;exact⟨G,δ,P,_,s,h,fun ds δ1 ⟨hz,r⟩ vs H1 hl ⟨A,x⟩=>⟨by rw [← hl];exact gg hz,fun p hp=>k.2 _ r p _ (by
  have rs:=x.reps ds vs hl (fun q hq=>CU _ hq)
  have sm:=aJ hp (.lst vs)
  have nm:¬ (G.M0 p∨A p):=fun z=>x.mem p z hp
  refine⟨fun b o e n=>sm b o (x.old b o e n),.inl ?_,fun z=>nm (.inl z),vs,aI,Reps.kp (Kp.of_same sm) _ _ (Reps.more (fun b z=>?_) _ _ rs)⟩
  ·cases q:G.H0 p with
   | none=>rfl
   | some o=>exact absurd hp (x.stay p (by rw [q];exact fun z=>nomatch z))
  ·rcases z with z | z
   ·exact .inl (.inl z)
   ·exact .inr (by rw [z];exact hp))⟩⟩
theorem et (i:Nat) {x:Str} {p pos':Pos} (hN:X.N.Nodup) (h:DA X es t) (hi:X.N[i]?=some x:=by rfl) (hx:Loc X.env.scope x:=by walk_at "v2") (hs:swapsWith (.List es p) (some (.Name x pos')) pos.line X.env=pure false:=by rfl)
  (hf:X.fn x=true∨X.env.scope.names.lookup x=some .local :=by walk_at "v1"):DS X (.Assign [.Name x pos'] (.List es p) pos) (zF i t) :=
 PS.imp (lY hN hi hx (tT h) hs hf) fun E σ H h_0=>by obtain ⟨G,δ,P,R,s,h,k,_⟩:=h_0;exact⟨G,δ,P,_,s,h,fun ds δ1 ⟨hz,r⟩ vs H1 hl ⟨A,x⟩=>⟨by rw [← hl];exact gg hz,fun p hp=>by
  have rs:=x.reps ds vs hl (fun q hq=>CU _ hq)
  have sm:=aJ hp (.lst vs)
  refine k _ (r p) _ _ ⟨_,x.claim (P':=P) hp sm ⟨vs,aI,Reps.kp (Kp.of_same sm) _ _ (Reps.more (fun b z=>?_) _ _ rs)⟩ fun q hq=>CT _ hq⟩
  rcases z with z | z
  ·exact .inl z
  ·exact .inr (by rw [z];exact hp)⟩⟩
theorem kt (i:Nat) {x:Str} {p pos':Pos} (hN:X.N.Nodup) (hi:X.N[i]?=some x:=by rfl) (hx:Loc X.env.scope x:=by walk_at "v2") (hs:swapsWith (.Dict [] [] p) (some (.Name x pos')) pos.line X.env=pure false:=by rfl)
  (hf:X.fn x=true∨X.env.scope.names.lookup x=some .local :=by walk_at "v1"):DS X (.Assign [.Name x pos'] (.Dict [] [] p) pos) (zL i) :=
 PS.imp (lY hN hi hx oI hs hf) fun E σ H ⟨G,δ,P,R,⟨A,x⟩,h,k,_⟩=>fun p hp=>by
  have sm:=aJ hp (.dK [])
  exact k _ (h p) _ _ ⟨_,x.claim (P':=P) hp sm ⟨[],by rw [aI];rfl,rfl,Reps.nil⟩ fun q hq=>hq⟩
theorem xJ {K:PySem.W.Frag} {G:Gf} {A:Addr→Prop} {δ:En} {P P':List (D×V)} {σ:L2.St} {H:Hp} {i:Nat} {a:Addr} {d0:D} {ds:List D} {vs:List V} {f:FO} {R:D→D→Prop} {Q:VK} {E:XK} (x:Sx K G A δ P σ H) (hi:δ[i]?=some (.own a d0)) (hl:ds.length=vs.length) (hp:∀ p∈ds.zip vs,p∈P)
  (hP:∀ p∈P',p∈P) (hf:f d0 ds R) (k:∀ r d1,R r d1→∀ v H',S K G (δ.set i (.own a d1)) ((r,v) :: P') σ H'→Q v H'):spO K f (.ref a :: vs) H Q E:=by
 obtain ⟨_,aa,oo⟩:=x.own i a d0 hi
 have e1:∀ b,(((G.M0 b∨A b)∧b≠a)∨b=a)→(G.M0 b∨A b):=fun b h=>h.elim (fun z=>z.1) fun z=>.inr (by rw [z];exact aa)
 have e2:∀ b,(G.M0 b∨A b)→(((G.M0 b∨A b)∧b≠a)∨b=a):=fun b h=>by
  by_cases z:b=a
  ·exact .inr z
  ·exact .inl ⟨h,z⟩
 refine⟨fun b=>(G.M0 b∨A b)∧b≠a,a,d0,vs,ds,R,rfl,fun b z=>x.mem b z.1,fun z=>z.2 rfl,bH.more (fun b z=>.inl (e1 b z)) oo,Reps.more (fun b z=>.inl (e1 b z)) _ _ (x.reps ds vs hl hp),hf,fun r d1 hr v H' hk ow rp=>k r d1 hr v H' ⟨A,?_⟩⟩
 exact ((x.change hi hk (bH.more (fun b z=>.inl (e2 b z)) ow)).sub hP).push (Rep.more (fun b z=>.inl (e2 b z)) _ _ rp)
theorem lP (i:Nat) {f:FO} {x y:Str} {k:Nat} {ps:List Str} {p p2 pos:Pos} (C:Cal X.prog X.w X.K X.mg X.base k x ps (spO1 X.K f)) (hr:Room k X.A) (hg:Gl X x) (ha:DE X a ta) (hN:X.N[i]?=some y:=by rfl)
  (hv:Vis X.env.scope y:=by walk_at "v3") (hd:(y == ("__debug__":Str))=false:=by decide) (hcd:(y == ("__classdict__":Str))=false:=by decide) (hdb:(x == ("__debug__":Str))=false:=by decide)
  (he:starEach [a,.Name y p2] X.env=(false,eval a X.env) :: starEach [.Name y p2] X.env:=by rfl) (he2:starEach [.Name y p2] X.env=(false,eval (.Name y p2) X.env) :: starEach [] X.env:=by rfl) (hpl:(backTo pos (starEach [.Name y p2] X.env)).any (·.1)=false:=by rfl) :
  DE X (.Call (.Name x p) [a,.Name y p2] [] pos) (fun δ R=>ta δ (wd fun z δ1=>∃ a d0,δ1[i]?=some (.own a d0)∧f d0 [z] fun r d1=>R (.d r) (δ1.set i (.own a d1)))):=by
 obtain ⟨g,fd,F,b,kp,m⟩:=C.ex
 refine PE.imp (ki F hr hg m kp b .nil uk (bQ ha (bQ (eA hN hv hd hcd) eR he2) he) hdb he hpl) fun σ H Q ⟨G,δ,P,R,s,h,k,_⟩=>up.mk s h fun z δ1 ⟨a,d0,hi,hf⟩ v H1 s1=>⟨.ref a,s1.own hi,?_⟩
 show spO1 X.K f [v,.ref a] H1 Q _
 obtain ⟨A,x⟩:=s1
 exact⟨v,.ref a,rfl,xJ (ds:=[z]) x hi rfl (by simp) (P':=P) (fun q hq=>CL _ hq) hf fun r d1 hr v H' s'=>k r _ hr v H' s'⟩
theorem gG {K:PySem.W.Frag} {G:Gf} {A:Addr→Prop} {δ:En} {P:List (D×V)} {σ:L2.St} {H:Hp} {i:Nat} {a:Addr} {ds:List D} (x:Sx K G A δ P σ H) (hi:δ[i]?=some (.own a (.lst ds))):σ[i]?=some (some (.ref a))∧A a∧∃ vs,H a=some (.lst vs)∧Reps K (fun b=>G.M0 b∨A b) H ds vs:=by
 obtain ⟨h1,h2,vs,h3,h4⟩:=x.own i a _ hi
 exact⟨h1,h2,vs,h3,h4⟩
theorem zr (i:Nat) {y:Str} {p p2 pos:Pos} (hg:Gl X "len") (hm:X.mg "len"=none) (hv':bootBuiltins "len"=some (.builtin "len")) (hN:X.N[i]?=some y:=by rfl) (hv:Vis X.env.scope y:=by walk_at "v3")
  (hd:(y == ("__debug__":Str))=false:=by decide) (hcd:(y == ("__classdict__":Str))=false:=by decide) (he:starEach [.Name y p2] X.env=(false,eval (.Name y p2) X.env) :: starEach [] X.env:=by rfl) (hpl:(backTo pos (starEach [] X.env)).any (·.1)=false:=by rfl) :
  DE X (.Call (.Name "len" p) [.Name y p2] [] pos) (At i) :=
 PE.imp (kc gT hg hm hv' (bQ (eA hN hv hd hcd) eR he) (by decide) (by decide) he hpl) fun σ H Q h_0=>by
  obtain ⟨G,δ,P,R,s,⟨a,ds,e,h⟩,k,_⟩:=h_0
  obtain ⟨A,x⟩:=id s
  obtain ⟨h1,aa,vs,hvs,rs⟩:=gG x e
  exact⟨.ref a,h1,a,vs,rfl,.inl (SqL.of hvs),k _ δ h _ H (s.sc (by rw [Reps.length _ _ rs];rfl))⟩
theorem jj (i:Nat) {y:Str} {p p2 pos:Pos} (hg:Gl X "tuple") (hm:X.mg "tuple"=none) (hv':bootBuiltins "tuple"=some (.type "tuple")) (hN:X.N[i]?=some y:=by rfl) (hv:Vis X.env.scope y:=by walk_at "v3")
  (hd:(y == ("__debug__":Str))=false:=by decide) (hcd:(y == ("__classdict__":Str))=false:=by decide) (he:starEach [.Name y p2] X.env=(false,eval (.Name y p2) X.env) :: starEach [] X.env:=by rfl) (hpl:(backTo pos (starEach [] X.env)).any (·.1)=false:=by rfl) :
  DE X (.Call (.Name "tuple" p) [.Name y p2] [] pos) (rX i) :=
 PE.imp (iW gl hg hm hv' (bQ (eA hN hv hd hcd) eR he) (by decide) (by decide) he hpl) fun σ H Q h_0=>by
  obtain ⟨G,δ,P,R,s,⟨a,ds,e,h⟩,k,_⟩:=h_0
  obtain ⟨A,x⟩:=id s
  obtain ⟨h1,aa,vs,hvs,rs⟩:=gG x e
  refine⟨.ref a,h1,a,vs,rfl,.inl ⟨SqL.of hvs,fun l hl=>k _ δ h _ _ ⟨A,(x.same (aJ hl _)).push ?_⟩⟩⟩
  unfold Rep
  exact⟨l,vs,rfl,SqT.of aI,Reps.kp (Kp.of_same (aJ hl _)) _ _ rs⟩
theorem bN (i:Nat) {y:Str} {p apos cpos:Pos} (he:DE X e ta) (hN:X.N[i]?=some y:=by rfl) (hv:Vis X.env.scope y:=by walk_at "v3")
  (hd:(y == ("__debug__":Str))=false:=by decide) (hcd:(y == ("__classdict__":Str))=false:=by decide)
  (hbase:attributeBase (.Name y p) "append" X.env (eval (.Name y p) X.env)=eval (.Name y p) X.env:=by rfl)
  (hfew:((backTo cpos (starEach [e] X.env)).all (fun x=>!x.1) && (backToKw cpos (keywordEach [] X.env)).all (fun x=>x.1.isSome) && decide ([e].length + ([]:List Keyword).length + (if ([]:List Keyword).isEmpty then 0 else 1) < 30))=true:=by rfl)
  (hline:(apos.endLine == cpos.line)=true:=by rfl) (hs:starEach [e] X.env=(false,eval e X.env) :: starEach [] X.env:=by rfl) (hplain:(backTo cpos (starEach [] X.env)).any (·.1)=false:=by rfl)
  (hsw:swapsWith (.Call (.Attribute (.Name y p) "append" apos) [e] [] cpos) none pos.line X.env=pure false:=by rfl) :
  DS X (.Expr (.Call (.Attribute (.Name y p) "append" apos) [e] [] cpos) pos) (fun R δ=>∃ a ds,δ[i]?=some (.own a (.lst ds))∧ta δ (wd fun x δ1=>∃ ds,δ1[i]?=some (.own a (.lst ds))∧ds.length < 9000∧R.nx (δ1.set i (.own a (.lst (ds++[x])))))) :=
 PS.imp (nQ (By PySem.F.plainAttrs_list PySem.F.slot_list_append PySem.F.type_list_append mh (eA hN hv hd hcd) (bQ he eR hs) hbase hfew hline hs hplain) hsw) fun E σ H h_0=>by
  obtain ⟨G,δ,P,R,s,⟨a,ds0,hi0,h⟩,k,_⟩:=h_0
  obtain ⟨A0,x0⟩:=id s
  obtain ⟨h0,_,vs0,hvs0,_⟩:=gG x0 hi0
  refine⟨.ref a,h0,.inl ⟨rfl,vs0,SqL.of hvs0⟩,up.mk s h fun x δ1 ⟨ds,hi,hz,r⟩ v H1 ⟨A,q⟩=>?_⟩
  obtain ⟨_,aa,vs,hvs,rs⟩:=gG q hi
  refine⟨a,vs,v,rfl,rfl,hvs,by rw [← Reps.length _ _ rs];exact iD (Nat.le_of_lt hz),k _ r _ _ ⟨A,(q.change (d':=.lst (ds++[x])) hi (fun b o n e=>by rw [aO n];exact e) ⟨vs++[v],aI,?_⟩).sub (P':=P) fun q hq=>CL _ hq⟩⟩
  have kp:Kp (fun b=>G.M0 b∨A b) H1 (upd H1 a (.lst (vs++[v]))):=by
   have hk:∀ b o,b≠a→H1 b=some o→upd H1 a (.lst (vs++[v])) b=some o:=fun b o n e=>by rw [aO n];exact e
   exact⟨fun b o e n=>hk b o (fun z=>n (.inr (by rw [z];exact aa))) e,fun b xs e=>hk b _ (fun z=>by rw [z,hvs] at e;cases e) e,fun b o u e=>hk b _ (fun z=>by rw [z,hvs] at e;cases e) e⟩
  exact Reps.kp kp _ _ (Reps.append _ _ _ _ rs (Reps.one (q.pnd (x,v) (by simp))))
theorem dA (i:Nat) {st:List Stmt} {u:TDS} (h:DSs X st u):DSs X st (sM i u) :=
 PSs.imp h fun E σ H h_0=>by obtain ⟨G,δ,P,R,⟨A,x⟩,⟨a,d,e,h⟩,k⟩:=h_0;exact⟨G,_,P,R,⟨_,x.freeze e fun z=>(x.new a (x.own i a d e).2.1).elim (fun q=>x.m0 a z q) fun q=>(x.pm a q).2 z⟩,h,k⟩
end
end DL
namespace DL
open PySem PySem.Spec PyProof.Rows L2
def dAt {α:Type}:List Str→List α→Str→Option α
 | k :: ks,d :: ds,x=>if k=x then some d else dAt ks ds x
 | _,_,_=>none
def vRep {α:Type}:List Str→List α→Str→α→List α
 | k :: ks,d :: ds,x,y=>(if k=x then y else d) :: vRep ks ds x y
 | _,ds,_,_=>ds
def kPut (ks:List Str) (x:Str):List Str:=if x∈ks then ks else ks++[x]
def vPut {α:Type} (ks:List Str) (ds:List α) (x:Str) (y:α):List α:=if x∈ks then vRep ks ds x y else ds++[y]
theorem pY {α:Type}:∀ (ks:List Str) (ds:List α) (x:Str) (y:α),(vRep ks ds x y).length=ds.length
 | [],ds,_,_=>by cases ds<;>rfl
 | k :: ks,[],_,_=>rfl
 | k :: ks,d :: ds,x,y=>by unfold vRep;rw [CZ,CZ,pY ks ds x y]
theorem yX {α:Type} {ks:List Str} {ds:List α} {x:Str} {y:α} (h:ks.length=ds.length):(kPut ks x).length=(vPut ks ds x y).length:=by
 unfold kPut vPut
 by_cases e:x∈ks
 ·rw [if_pos e,if_pos e,pY];exact h
 ·rw [if_neg e,if_neg e,CW,CW,h];rfl
theorem uG {ks:List Str} {vs:List V} (x:Str) (h:ks.length=vs.length):((a4 ks vs).any fun kv=>decide (kv.1=Sum.inr x))=decide (x∈ks):=by
 induction ks generalizing vs with
 | nil=>rfl
 | cons k ks ih =>
  cases vs with
  | nil=>cases h
  | cons v vs =>
   show ((Sum.inr k,v) :: a4 ks vs).any _=_
   rw [List.any_cons,ih (Nat.succ.inj h)]
   by_cases e:k=x
   ·subst e;simp
   ·have e2:¬ x=k:=fun z=>e z.symm
    simp [e,e2]
theorem uP {ks:List Str} {vs:List V} (x:Str) (y:V):(a4 ks vs).map (fun kv=>if kv.1=Sum.inr x then (kv.1,y) else kv)=a4 ks (vRep ks vs x y):=by
 induction ks generalizing vs with
 | nil=>rfl
 | cons k ks ih =>
  cases vs with
  | nil=>rfl
  | cons v vs =>
   show ((Sum.inr k,v) :: a4 ks vs).map _=(Sum.inr k,if k=x then y else v) :: a4 ks (vRep ks vs x y)
   rw [List.map_cons,ih]
   by_cases e:k=x
   ·subst e;simp
   ·have:¬ (Sum.inr k:Key)=Sum.inr x:=fun z=>e (Sum.inr.inj z)
    simp [e]
theorem yS {ks:List Str} {vs:List V} (x:Str) (y:V) (h:ks.length=vs.length):putK (a4 ks vs) (Sum.inr x) y=a4 (kPut ks x) (vPut ks vs x y):=by
 unfold putK
 rw [uG x h]
 unfold kPut vPut
 by_cases e:x∈ks
 ·rw [decide_eq_true e,if_pos rfl,if_pos e,if_pos e,uP]
 ·rw [decide_eq_false e,if_neg Bool.false_ne_true,if_neg e,if_neg e]
  unfold a4
  rw [C3,List.zip_append (by rw [CK];exact h)]
  rfl
theorem gk {ks:List Str} {vs:List V} (x:Str):valV (a4 ks vs) (Sum.inr x)=dAt ks vs x:=by
 induction ks generalizing vs with
 | nil=>rfl
 | cons k ks ih =>
  cases vs with
  | nil=>rfl
  | cons v vs =>
   show valV ((Sum.inr k,v) :: a4 ks vs) _=if k=x then some v else dAt ks vs x
   by_cases e:k=x
   ·subst e;rw [iu rfl,if_pos rfl]
   ·rw [iq (fun z=>e (Sum.inr.inj z)),if_neg e,ih]
section
variable {K:PySem.W.Frag} {M:Addr→Prop} {H:Hp}
theorem Reps.rep {d:D} {v:V} (r:Rep K M H d v) (x:Str):∀ (ks:List Str) (ds:List D) (vs:List V),Reps K M H ds vs→Reps K M H (vRep ks ds x d) (vRep ks vs x v)
 | [],ds,vs,h=>by
  have e1:vRep [] ds x d=ds:=by cases ds<;>rfl
  have e2:vRep [] vs x v=vs:=by cases vs<;>rfl
  rw [e1,e2];exact h
 | k :: ks,[],vs,h=>by unfold Reps at h;subst h;exact Reps.nil
 | k :: ks,e :: ds,vs,h=>by
  unfold Reps at h
  obtain ⟨w,rs,rfl,q,s⟩:=h
  show Reps K M H ((if k=x then d else e) :: vRep ks ds x d) ((if k=x then v else w) :: vRep ks rs x v)
  refine Reps.cons ?_ (Reps.rep r x ks ds rs s)
  by_cases z:k=x
  ·rw [if_pos z,if_pos z];exact r
  ·rw [if_neg z,if_neg z];exact q
theorem Reps.put {ks:List Str} {ds:List D} {vs:List V} {d:D} {v:V} (x:Str) (h:Reps K M H ds vs) (r:Rep K M H d v):Reps K M H (vPut ks ds x d) (vPut ks vs x v):=by
 unfold vPut
 by_cases e:x∈ks
 ·rw [if_pos e,if_pos e];exact Reps.rep r x ks ds vs h
 ·rw [if_neg e,if_neg e];exact Reps.append _ _ _ _ h (Reps.one r)
theorem Reps.dAt (x:Str):∀ (ks:List Str) (ds:List D) (vs:List V),Reps K M H ds vs→(∀ d,DL.dAt ks ds x=some d→∃ v,DL.dAt ks vs x=some v∧Rep K M H d v)∧(DL.dAt ks ds x=none→DL.dAt ks vs x=none)
 | [],ds,vs,h=>⟨fun d e=>(nomatch e),fun _=>rfl⟩
 | k :: ks,[],vs,h=>by unfold Reps at h;subst h;exact⟨fun d e=>(nomatch e),fun _=>rfl⟩
 | k :: ks,e :: ds,vs,h=>by
  unfold Reps at h
  obtain ⟨w,rs,rfl,q,s⟩:=h
  obtain ⟨h1,h2⟩:=Reps.dAt x ks ds rs s
  show (∀ d,(if k=x then some e else DL.dAt ks ds x)=some d→∃ v,(if k=x then some w else DL.dAt ks rs x)=some v∧_)∧((if k=x then some e else DL.dAt ks ds x)=none→(if k=x then some w else DL.dAt ks rs x)=none)
  by_cases z:k=x
  ·simp only [if_pos z]
   exact⟨fun d e=>by cases e;exact⟨w,rfl,q⟩,fun e=>(nomatch e)⟩
  ·simp only [if_neg z]
   exact⟨h1,h2⟩
theorem kb {α:Type} {ks:List Str} {ds:List α} {x:Str} (h:ks.length=ds.length):(dAt ks ds x).isSome=decide (x∈ks):=by
 induction ks generalizing ds with
 | nil=>rfl
 | cons k ks ih =>
  cases ds with
  | nil=>cases h
  | cons v vs =>
   show (if k=x then some v else dAt ks vs x).isSome=_
   by_cases e:k=x
   ·subst e;simp
   ·have e2:¬ x=k:=fun z=>e z.symm
    rw [if_neg e,ih (Nat.succ.inj h)]
    simp [e2]
end
def vC:List D→(D→Prop)→Prop
 | [.dct ks ds,.str x],R=>∃ d,dAt ks ds x=some d∧R d
 | [.fd ks ds,.str x],R=>∃ d,dAt ks ds x=some d∧R d
 | _,_=>False
theorem vS {d0:List D} {R:D→Prop} (h:vC d0 R):(∃ (ks:List Str) (ds:List D) (x:Str),d0=[.dct ks ds,.str x]∧∃ d,dAt ks ds x=some d∧R d)∨(∃ (ks:List Str) (ds:List D) (x:Str),d0=[.fd ks ds,.str x]∧∃ d,dAt ks ds x=some d∧R d):=by
 rcases d0 with _ | ⟨a,_ | ⟨b,_ | ⟨c,l⟩⟩⟩
 ·exact False.elim h
 ·cases a<;>exact False.elim h
 ·cases a<;>first | exact False.elim h | (cases b<;>first | exact False.elim h | exact .inl ⟨_,_,_,rfl,h⟩ | exact .inr ⟨_,_,_,rfl,h⟩)
 ·cases a<;>first | exact False.elim h | (cases b<;>exact False.elim h)
theorem uz {ks:List Str} {ds:List D} {x:Str} {R:D→Prop}:vC [.fd ks ds,.str x] R↔∃ d,dAt ks ds x=some d∧R d:=Iff.rfl
theorem u9 {ks:List Str} {ds:List D} {x:Str} {R:D→Prop}:vC [.dct ks ds,.str x] R↔∃ d,dAt ks ds x=some d∧R d:=Iff.rfl
def fIn (g:Bool→Bool):List D→(D→Prop)→Prop
 | [.str x,.dct ks _],R=>R (.bl (g (decide (x∈ks))))
 | [.str x,.lst ds],R=>∃ ss:List Str,ds=ss.map D.str∧R (.bl (g (decide (x∈ss))))
 | _,_=>False
theorem v5 {g:Bool→Bool} {d0:List D} {R:D→Prop} (h:fIn g d0 R):(∃ (x:Str) (ks:List Str) (z1:List D),d0=[.str x,.dct ks z1]∧R (.bl (g (decide (x∈ks)))))∨(∃ (x:Str) (ds:List D),d0=[.str x,.lst ds]∧∃ ss:List Str,ds=ss.map D.str∧R (.bl (g (decide (x∈ss))))):=by
 rcases d0 with _ | ⟨a,_ | ⟨b,_ | ⟨c,l⟩⟩⟩
 ·exact False.elim h
 ·cases a<;>exact False.elim h
 ·cases a<;>first | exact False.elim h | (cases b<;>first | exact False.elim h | exact .inl ⟨_,_,_,rfl,h⟩ | exact .inr ⟨_,_,rfl,h⟩)
 ·cases a<;>first | exact False.elim h | (cases b<;>exact False.elim h)
theorem yV {g:Bool→Bool} {ks:List Str} {ds:List D} {x:Str} {R:D→Prop}:fIn g [.str x,.dct ks ds] R↔R (.bl (g (decide (x∈ks)))):=Iff.rfl
theorem w4 {g:Bool→Bool} {ds:List D} {x:Str} {R:D→Prop}:fIn g [.str x,.lst ds] R↔∃ ss:List Str,ds=ss.map D.str∧R (.bl (g (decide (x∈ss)))):=Iff.rfl
theorem fY {K:PySem.W.Frag} {M:Addr→Prop} {H:Hp}:∀ {ss:List Str} {vs:List V},Reps K M H (ss.map D.str) vs→vs=ss.map V.str
 | [],vs,h=>by unfold Reps at h;exact h
 | s :: ss,vs,h=>by
  rw [List.map_cons] at h
  unfold Reps at h
  obtain ⟨v,r,rfl,q,t⟩:=h
  rw [bW q,fY t];rfl
theorem df {K:PySem.W.Frag} {M:Addr→Prop} {H:Hp}:∀ (ss:List Str),Reps K M H (ss.map D.str) (ss.map V.str)
 | []=>Reps.nil
 | s :: ss=>Reps.cons (by unfold Rep;rfl) (df ss)
theorem eL:∀ {ss:List Str} {us:List Value},Vals (ss.map V.str) us→StrsAre us ss
 | [],_,r=>by rw [List.map_nil] at r;cases r;exact .nil
 | s :: ss,_,r=>by
  rw [List.map_cons] at r
  cases r with
  | @cons _ u _ us h t =>
   obtain ⟨t',e⟩:=(show ∃ t,u=Value.str s t from h)
   subst e
   exact .cons _ _ (eL t)
theorem de:∀ {ss:List Str} {us:List Value},StrsAre us ss→Vals (ss.map V.str) us
 | _,_,.nil=>.nil
 | _,_,.cons _ _ h=>.cons ⟨_,rfl⟩ (de h)
theorem kj (x:Str):∀ {us:List Value} {ss:List Str},StrsAre us ss→us.any (fun y=>match y with | .str z _=>z == x | _=>false)=decide (x∈ss)
 | _,_,.nil=>rfl
 | _,_,.cons y t (vs:=us) (ys:=ss) h=>by
  rw [List.any_cons,kj x h]
  by_cases e:y=x
  ·subst e;simp
  ·have e2:¬ x=y:=fun z=>e z.symm
   simp [e,e2]
theorem pW {us:List Value} {ss:List Str} (h:StrsAre us ss):∀ y∈us,∃ z t,y=Value.str z t:=by
 induction h with
 | nil=>intro y hy;cases hy
 | cons z t h ih =>
  intro y hy
  rcases CQ.mp hy with rfl | hy
  ·exact⟨z,t,rfl⟩
  ·exact ih y hy
section
variable {X:Cx}
theorem o_in (hu:X.A.units + 64 < cLine):OpR X (compareOp .In) fun x y=>a6 X.K (fIn id) [x,y]:=by
 intro pins s σ H x y v u Q I rx ry h
 obtain ⟨M,ds,R,m,rs,h,k⟩:=h
 have fin:∀ b s',Inv X pins σ H s'→R (.bl b)→EP X pins σ Q (.bool b) s':=fun b s' I' r=>⟨.bl b,H,I',rfl,k _ r _ H (Same.refl H) (Rep.sc rfl)⟩
 replace h:=v5 h
 rcases h with ⟨_,_,_,rfl,h⟩ | ⟨x0,_,rfl,h⟩
 ·obtain ⟨h1,h2⟩:=cK rs
  cases bW h1
  unfold Rep at h2
  obtain ⟨a,vs,rfl,_,e,l,r⟩:=h2
  cases ry
  refine d_in (by omega) I (DGet.k (k:=Sum.inr _) e) rx fun s' I'=>?_
  rw [gk,kb (by rw [l,Reps.length _ _ r])]
  exact fin _ _ I' h
 ·obtain ⟨ss,rfl,h⟩:=h
  obtain ⟨h1,h2⟩:=cK rs
  cases bW h1
  unfold Rep at h2
  obtain ⟨a,vs,rfl,_,e,r⟩:=h2
  cases ry
  cases fY r
  obtain ⟨t,rfl⟩:=rx
  obtain ⟨its,rv,pl,_⟩:=I.list (SqL.of e)
  have hs:=eL rv
  refine SeqAt.in_listAt (fun y=>match y with | .str z _=>z == x0 | _=>false) pl.isList (fun y hy=>?_) ?_
  ·obtain ⟨z,t',rfl⟩:=pW hs y (by simpa using hy)
   exact SeqAt.EqAt.str_str z t' x0 t
  ·rw [List.any_toArray,kj x0 hs]
   exact fin _ _ I h
theorem w9 (hu:X.A.units + 64 < cLine):OpR X (compareOp .NotIn) fun x y=>a6 X.K (fIn Bool.not) [x,y]:=by
 intro pins s σ H x y v u Q I rx ry h
 obtain ⟨M,ds,R,m,rs,h,k⟩:=h
 have fin:∀ b s',Inv X pins σ H s'→R (.bl b)→EP X pins σ Q (.bool b) s':=fun b s' I' r=>⟨.bl b,H,I',rfl,k _ r _ H (Same.refl H) (Rep.sc rfl)⟩
 replace h:=v5 h
 rcases h with ⟨_,_,_,rfl,h⟩ | ⟨x0,_,rfl,h⟩
 ·obtain ⟨h1,h2⟩:=cK rs
  cases bW h1
  unfold Rep at h2
  obtain ⟨a,vs,rfl,_,e,l,r⟩:=h2
  cases ry
  refine xa (by omega) I (DGet.k (k:=Sum.inr _) e) rx fun s' I'=>?_
  rw [gk,kb (by rw [l,Reps.length _ _ r])]
  exact fin _ _ I' h
 ·obtain ⟨ss,rfl,h⟩:=h
  obtain ⟨h1,h2⟩:=cK rs
  cases bW h1
  unfold Rep at h2
  obtain ⟨a,vs,rfl,_,e,r⟩:=h2
  cases ry
  cases fY r
  obtain ⟨t,rfl⟩:=rx
  obtain ⟨its,rv,pl,_⟩:=I.list (SqL.of e)
  have hs:=eL rv
  refine SeqAt.notIn_listAt (fun y=>match y with | .str z _=>z == x0 | _=>false) pl.isList (fun y hy=>?_) ?_
  ·obtain ⟨z,t',rfl⟩:=pW hs y (by simpa using hy)
   exact SeqAt.EqAt.str_str z t' x0 t
  ·rw [List.any_toArray,kj x0 hs]
   exact fin _ _ I h
def fNeq:List D→(D→Prop)→Prop
 | [.int i,.int j],R=>R (.bl (!decide (i=j)))
 | [.str x,.str y],R=>R (.bl (!decide (x=y)))
 | [.bl a,.bl b],R=>R (.bl (!decide (a=b)))
 | [.tup xs,.tup ys],R=>(xs=ys∧D.nds xs=true∧D.dps xs≤60)∧R (.bl false)
 | [.lst xs,.lst ys],R=>(xs=ys∧D.nds xs=true∧D.dps xs≤60)∧R (.bl false)
 | _,_=>False
theorem wZ {d0:List D} {R:D→Prop} (h:fNeq d0 R):(∃ (i:Int) (j:Int),d0=[.int i,.int j]∧R (.bl (!decide (i=j))))∨(∃ (x:Str) (y:Str),d0=[.str x,.str y]∧R (.bl (!decide (x=y))))∨(∃ (a:Bool) (b:Bool),d0=[.bl a,.bl b]∧R (.bl (!decide (a=b))))∨(∃ (xs:List D) (ys:List D),d0=[.tup xs,.tup ys]∧(xs=ys∧D.nds xs=true∧D.dps xs≤60)∧R (.bl false))∨(∃ (xs:List D) (ys:List D),d0=[.lst xs,.lst ys]∧(xs=ys∧D.nds xs=true∧D.dps xs≤60)∧R (.bl false)):=by
 rcases d0 with _ | ⟨a,_ | ⟨b,_ | ⟨c,l⟩⟩⟩
 ·exact False.elim h
 ·cases a<;>exact False.elim h
 ·cases a<;>first | exact False.elim h | (cases b<;>first | exact False.elim h | exact .inl ⟨_,_,rfl,h⟩ | exact .inr (.inl ⟨_,_,rfl,h⟩) | exact .inr (.inr (.inl ⟨_,_,rfl,h⟩)) | exact .inr (.inr (.inr (.inl ⟨_,_,rfl,h⟩))) | exact .inr (.inr (.inr (.inr ⟨_,_,rfl,h⟩))))
 ·cases a<;>first | exact False.elim h | (cases b<;>exact False.elim h)
theorem vE {i j:Int} {R:D→Prop}:fNeq [.int i,.int j] R↔R (.bl (!decide (i=j))):=Iff.rfl
theorem vG {i j:Str} {R:D→Prop}:fNeq [.str i,.str j] R↔R (.bl (!decide (i=j))):=Iff.rfl
theorem yF {i j:Bool} {R:D→Prop}:fNeq [.bl i,.bl j] R↔R (.bl (!decide (i=j))):=Iff.rfl
theorem uJ {xs ys:List D} {R:D→Prop}:fNeq [.tup xs,.tup ys] R↔(xs=ys∧D.nds xs=true∧D.dps xs≤60)∧R (.bl false):=Iff.rfl
theorem vK {xs ys:List D} {R:D→Prop}:fNeq [.lst xs,.lst ys] R↔(xs=ys∧D.nds xs=true∧D.dps xs≤60)∧R (.bl false):=Iff.rfl
theorem kh {α β:Type} {F:α→β→Prop}:∀ {l₁:List α} {l₂:List β} {j:Nat} {b:β},Paired F l₁ l₂→l₂[j]?=some b→∃ a,l₁[j]?=some a∧F a b
 | _,_,_,_,.nil,e=>by simp at e
 | _,_,0,_,.cons h t,e=>by simp at e;subst e;exact⟨_,rfl,h⟩
 | _,_,j + 1,_,.cons h t,e=>by
  obtain ⟨a,q,f⟩:=kh (j:=j) t (by simpa using e)
  exact⟨a,by simpa using q,f⟩
theorem mW {ks:List Str} {vs:List V} {j:Nat} {k:Key} {v:V} (e:(a4 ks vs)[j]?=some (k,v)):∃ x,k=Sum.inr x∧ks[j]?=some x∧vs[j]?=some v:=by
 unfold a4 at e
 rw [List.getElem?_zip_eq_some] at e
 obtain ⟨e1,e2⟩:=e
 rw [C0] at e1
 cases h:ks[j]? with
 | none=>rw [h] at e1;cases e1
 | some x=>rw [h] at e1;exact⟨x,(Option.some.inj e1).symm,rfl,e2⟩
theorem jG (hu:X.A.units + 64 < cLine):OpR X (compareOp .NotEq) fun x y=>a6 X.K fNeq [x,y]:=by
 intro pins s σ H x y v u Q I rx ry h
 obtain ⟨M,ds,R,m,rs,h,k⟩:=h
 have fin:∀ b,R (.bl b)→EP X pins σ Q (.bool b) s:=fun b r=>⟨.bl b,H,I,rfl,k _ r _ H (Same.refl H) (Rep.sc rfl)⟩
 replace h:=wZ h
 rcases h with ⟨_,_,rfl,h⟩ | ⟨_,_,rfl,h⟩ | ⟨_,_,rfl,h⟩ | ⟨_,_,rfl,h⟩ | ⟨_,_,rfl,h⟩
 ·exact o_ne hu pins s σ H x y v u Q I rx ry ⟨M,_,R,m,rs,h,k⟩
 ·exact o_ne hu pins s σ H x y v u Q I rx ry ⟨M,_,R,m,rs,h,k⟩
 ·exact o_ne hu pins s σ H x y v u Q I rx ry ⟨M,_,R,m,rs,h,k⟩
 ·obtain ⟨⟨e,hn,hd⟩,h⟩:=h
  subst e
  obtain ⟨h1,h2⟩:=cK rs
  unfold Rep at h1 h2
  obtain ⟨a,vs,rfl,sq,rs1⟩:=h1
  obtain ⟨b,ws,rfl,sq',rs2⟩:=h2
  cases rx
  cases ry
  obtain ⟨its,r1,t1,_⟩:=I.tuple sq
  obtain ⟨its',r2,t2,_⟩:=I.tuple sq'
  have hs:its.length=its'.length:=by rw [← r1.length,← r2.length,← Reps.length _ _ rs1,← Reps.length _ _ rs2]
  refine SeqAt.RcNeAt.tuples (e:=fun _=>true) t1 t2 (by omega) (eqAt_Ds I _ X.A.in1 vs ws its its' hn (by rw [cW];omega) rs1 rs2 r1 r2) _ _ _ _ ?_
  have z:((List.range (min its.toArray.size its'.toArray.size)).all (fun _=>true) && its.toArray.size == its'.toArray.size)=true:=by simp [hs]
  rw [z]
  exact fin _ h
 ·obtain ⟨⟨e,hn,hd⟩,h⟩:=h
  subst e
  obtain ⟨h1,h2⟩:=cK rs
  unfold Rep at h1 h2
  obtain ⟨a,vs,rfl,_,sq,rs1⟩:=h1
  obtain ⟨b,ws,rfl,_,sq',rs2⟩:=h2
  cases rx
  cases ry
  obtain ⟨its,r1,t1,_⟩:=I.list (SqL.of sq)
  obtain ⟨its',r2,t2,_⟩:=I.list (SqL.of sq')
  have hs:its.length=its'.length:=by rw [← r1.length,← r2.length,← Reps.length _ _ rs1,← Reps.length _ _ rs2]
  refine SeqAt.RcNeAt.lists (e:=fun _=>true) t1.isList t2.isList (by simp [hs]) (by omega) (eqAt_Ds I _ X.A.in1 vs ws its its' hn (by rw [cW];omega) rs1 rs2 r1 r2) _ _ _ _ ?_
  rw [iz]
  exact fin _ h
end
end DL
namespace DL
open PySem PySem.Spec PyProof.Rows L2
section
variable {prog:Program} {w:World} {A:Around} {E:Value→Shared→Prop} {s:Shared}
theorem jS {a:Addr} {vs:List Value} {ss:List Str} {n:Nat} {Q:Value→Shared→Prop} (ho:s.heap.get? a=some (seqObj "list" vs.toArray n)) (hS:StrsAre vs ss) (h64:vs.length < 64)
  (h:∀ (out:Array Value) (ss':List Str),StrsAre out.toList ss'→ss'.Perm ss→sortedS ss'=true→Q .none { s with heap:=sortedHeap s.heap a vs out }) :
  wpAny (model prog w) A (call (.builtin "list.sort") [.ref a]) Q E s:=by
 refine wpAny_call_entry slot_list_sort ⟨_,ho,rfl⟩ entry_list_sort (list_sort_treeK strKind_oneLt ho hS.keysOf (fun v₁ v₂ rest e=>keyKind_strs (by rw [← e];exact hS)) h64 fun st' hp hs=>?_) (args_list_sort _)
 obtain ⟨ss',h1,h2,h3⟩:=sorted_out_str hS hp hs
 exact⟨_,rfl,h _ ss' h1 h2 h3⟩
end
abbrev Srt (ss:List Str):Prop:=sortedS ss=true
def iY:List D→(D→Prop)→Prop
 | [.lst ds],R=>∃ ss:List Str,ds=ss.map D.str∧ss.length < 64∧∀ ss',ss'.Perm ss→Srt ss'→R (.lst (ss'.map D.str))
 | [.dct ks _],R=>ks.length < 64∧∀ ss',ss'.Perm ks→Srt ss'→R (.lst (ss'.map D.str))
 | [.fd ks _],R=>ks.length < 64∧∀ ss',ss'.Perm ks→Srt ss'→R (.lst (ss'.map D.str))
 | _,_=>False
theorem qQ {d0:List D} {R:D→Prop} (h:iY d0 R):(∃ (ds:List D),d0=[.lst ds]∧∃ ss:List Str,ds=ss.map D.str∧ss.length < 64∧∀ ss',ss'.Perm ss→Srt ss'→R (.lst (ss'.map D.str)))∨(∃ (ks:List Str) (z1:List D),d0=[.dct ks z1]∧ks.length < 64∧∀ ss',ss'.Perm ks→Srt ss'→R (.lst (ss'.map D.str)))∨(∃ (ks:List Str) (z1:List D),d0=[.fd ks z1]∧ks.length < 64∧∀ ss',ss'.Perm ks→Srt ss'→R (.lst (ss'.map D.str))):=by
 rcases d0 with _ | ⟨a,_ | ⟨b,l⟩⟩
 ·exact False.elim h
 ·cases a<;>first | exact False.elim h | exact .inl ⟨_,rfl,h⟩ | exact .inr (.inl ⟨_,_,rfl,h⟩) | exact .inr (.inr ⟨_,_,rfl,h⟩)
 ·cases a<;>exact False.elim h
theorem nw {ds:List D} {R:D→Prop}:iY [.lst ds] R↔∃ ss:List Str,ds=ss.map D.str∧ss.length < 64∧∀ ss',ss'.Perm ss→Srt ss'→R (.lst (ss'.map D.str)):=Iff.rfl
theorem qk {ks:List Str} {ds:List D} {R:D→Prop}:iY [.fd ks ds] R↔ks.length < 64∧∀ ss',ss'.Perm ks→Srt ss'→R (.lst (ss'.map D.str)):=Iff.rfl
theorem oz {ks:List Str} {ds:List D} {R:D→Prop}:iY [.dct ks ds] R↔ks.length < 64∧∀ ss',ss'.Perm ks→Srt ss'→R (.lst (ss'.map D.str)):=Iff.rfl
theorem i4 {P:Program} {w:World}:∀ {ks:List Str} {us:List Value},ks.length=us.length→(∀ (j:Nat) v k,us[j]?=some v→ks[j]?=some k→(bh P w).is (Sum.inr k) v=true)→StrsAre us ks
 | [],[],_,_=>.nil
 | [],_ :: _,l,_=>by cases l
 | _ :: _,[],l,_=>by cases l
 | k :: ks,u :: us,l,h=>by
  have h0:=h 0 u k rfl rfl
  obtain ⟨t,rfl⟩:∃ t,u=Value.str k t:=by
   have:mQ (Sum.inr k) u=true:=h0
   rcases bm this with ⟨i,t,e,_⟩ | ⟨x,t,e,e2⟩
   ·cases e
   ·cases e;exact⟨t,e2⟩
  exact .cons _ _ (i4 (Nat.succ.inj l) fun j v k' e1 e2=>h (j + 1) v k' (by simpa using e1) (by simpa using e2))
section
variable {X:Cx}
theorem kQ (hc:X.calm=true):cj X (.builtin "sorted") (a6 X.K iY):=by
 intro pins s σ H xs us Q I rv h
 obtain ⟨M,ds,R,m,rs,h,k⟩:=h
 replace h:=qQ h
 rcases h with ⟨_,rfl,h⟩ | ⟨_,_,rfl,h⟩ | ⟨_,_,rfl,h⟩
 ·obtain ⟨ss,rfl,h64,h⟩:=h
  obtain ⟨x,rfl,q⟩:=bG rs
  unfold Rep at q
  obtain ⟨a,vs,rfl,_,e,r⟩:=q
  obtain ⟨u,rfl,ru⟩:=gw rv
  cases ru
  cases fY r
  obtain ⟨its,rv2,pl,_⟩:=I.list (SqL.of e)
  have hs:=eL rv2
  have hl:its.length=ss.length:=by rw [← rv2.length,CK]
  refine sorted_strs pl.isList hs (by omega) fun out ss' h1 h2 h3=>?_
  obtain ⟨ep,he⟩:=sortedAll_at s.heap its out
  have hz:(ss'.map V.str).length≤sizeLine:=by rw [CK,h2.length_eq];exact gg (by omega)
  have I2:L2.Inv X pins σ (upd H (s.heap.objs.size + 1) (.lst (ss'.map V.str))) { s with heap:=sortedAll s.heap its out } :=
   I.laid (t':=s.toks) (fun b o=>sortedAll_old) (Nat.le_succ _) (show cc X.prog X.w _ _ _ (.lst (ss'.map V.str)) from ⟨hz,out.toList,ep,de h1,he⟩)
  have fr:H (s.heap.objs.size + 1)=none:=I.hok.fresh (Nat.le_succ _)
  refine⟨.ref _,_,I2,rfl,k _ (h ss' h2 h3) _ _ (aJ fr _) ?_⟩
  unfold Rep
  exact⟨_,_,rfl,fun z=>m _ z fr,aI,df ss'⟩
 ·obtain ⟨h64,h⟩:=h
  rename_i ks ds
  obtain ⟨x,rfl,q⟩:=bG rs
  unfold Rep at q
  obtain ⟨a,vs,rfl,_,e,l,r⟩:=q
  obtain ⟨u,rfl,ru⟩:=gw rv
  cases ru
  obtain ⟨hz,lo,va,ra,da⟩:=uB I.hok e
  obtain ⟨ep,hat⟩:=da.dictAt
  have lv:=Reps.length _ _ r
  have hlen:va.length=ks.length:=by
   rw [← ra.length]
   unfold a4
   rw [List.length_zip,CK];omega
  refine Calls.call_function_entry kind_sorted plain_sorted entry_sorted (args_sorted1 _) ?_
  unfold Builtin.«sorted»
  refine wpAny_bind (m:=checkCount "sorted" 1 1 _) (wpAny_pure ?_)
  refine wpAny_bind (PySem.W.kdu_collect (A:=X.A.in1) (PySem.W.kdl_dict (knd:=bh X.prog X.w) (kvs:=va) (ep:=ep) lo) (I.ok.hd hc) hat (by rw [hlen];exact gg (by omega)) fun h' tk acc hk hacc=>?_)
  have hl:acc.toList.length=ks.length:=by rw [Array.length_toList,← hlen];exact hacc.1
  have hS:StrsAre acc.toList ks:=i4 hl.symm fun j v k' e1 e2=>by
   obtain ⟨k2,x2,h1,h2⟩:=hacc.2 j v (by rw [← Array.getElem?_toList];exact e1)
   obtain ⟨⟨k3,v3⟩,q1,z1,_⟩:=kh ra h1
   obtain ⟨x,rfl,kx,_⟩:=mW q1
   simp only at z1
   rw [kx] at e2
   cases e2
   rw [z1]
   exact h2
  refine wpAny_bind (wpAny_newList ?_ (by rw [hl];exact gg (by omega)))
  have hoL:(h'.push { cls:=.type "list",data:=.seq acc.toList.toArray }).get? h'.objs.size=some (seqObj "list" acc.toList.toArray 0):=Da _ rfl
  refine wpAny_bind (wpAny_holding (jS hoL hS (by omega) fun out ss' h1 h2 h3=>?_))
  refine wpAny_pure ⟨_,rfl,?_⟩
  obtain ⟨ep2,he⟩:=sortedHeap_at (out:=out) hoL
  have I1:L2.Inv X pins σ H { s with heap:=h',toks:=tk }:=I.kept (t':=tk) hk
  have kp:∀ b o,h'.get? b=some o→(sortedHeap (h'.push { cls:=.type "list",data:=.seq acc.toList.toArray }) h'.objs.size acc.toList out).get? b=some o:=fun b o e=>by
   have hb:=Heap.lt_size e
   rw [sortedHeap_old (Nat.ne_of_lt hb) (by rw [Heap.size_push];exact Nat.lt_succ_of_lt hb)]
   exact CO _ e
  have hz2:(ss'.map V.str).length≤sizeLine:=by rw [CK,h2.length_eq];exact gg (by omega)
  have I2:L2.Inv X pins σ (upd H h'.objs.size (.lst (ss'.map V.str))) { s with heap:=sortedHeap (h'.push { cls:=.type "list",data:=.seq acc.toList.toArray }) h'.objs.size acc.toList out,toks:=tk } :=
   I1.laid (t':=tk) kp (Nat.le_refl _) (show cc X.prog X.w _ _ _ (.lst (ss'.map V.str)) from ⟨hz2,out.toList,ep2,de h1,he⟩)
  have fr:H h'.objs.size=none:=I1.hok.fresh (Nat.le_refl _)
  refine⟨.ref _,_,I2,rfl,k _ (h ss' h2 h3) _ _ (aJ fr _) ?_⟩
  unfold Rep
  exact⟨_,_,rfl,fun z=>m _ z fr,aI,df ss'⟩
 ·obtain ⟨h64,h⟩:=h
  rename_i ks ds
  obtain ⟨x,rfl,q⟩:=bG rs
  unfold Rep at q
  obtain ⟨a,vs,o9,rfl,e,l,r⟩:=q
  obtain ⟨u,rfl,ru⟩:=gw rv
  cases ru
  obtain ⟨hz,lo,va,ra,da⟩:=iZ I.hok (.inr ⟨o9,e⟩)
  obtain ⟨ep,hat⟩:=da.dictAt
  have lv:=Reps.length _ _ r
  have hlen:va.length=ks.length:=by
   rw [← ra.length]
   unfold a4
   rw [List.length_zip,CK];omega
  refine Calls.call_function_entry kind_sorted plain_sorted entry_sorted (args_sorted1 _) ?_
  unfold Builtin.«sorted»
  refine wpAny_bind (m:=checkCount "sorted" 1 1 _) (wpAny_pure ?_)
  refine wpAny_bind (PySem.W.kdu_collect (A:=X.A.in1) (PySem.W.kdl_dict (knd:=bh X.prog X.w) (kvs:=va) (ep:=ep) lo) (I.ok.hd hc) hat (by rw [hlen];exact gg (by omega)) fun h' tk acc hk hacc=>?_)
  have hl:acc.toList.length=ks.length:=by rw [Array.length_toList,← hlen];exact hacc.1
  have hS:StrsAre acc.toList ks:=i4 hl.symm fun j v k' e1 e2=>by
   obtain ⟨k2,x2,h1,h2⟩:=hacc.2 j v (by rw [← Array.getElem?_toList];exact e1)
   obtain ⟨⟨k3,v3⟩,q1,z1,_⟩:=kh ra h1
   obtain ⟨x,rfl,kx,_⟩:=mW q1
   simp only at z1
   rw [kx] at e2
   cases e2
   rw [z1]
   exact h2
  refine wpAny_bind (wpAny_newList ?_ (by rw [hl];exact gg (by omega)))
  have hoL:(h'.push { cls:=.type "list",data:=.seq acc.toList.toArray }).get? h'.objs.size=some (seqObj "list" acc.toList.toArray 0):=Da _ rfl
  refine wpAny_bind (wpAny_holding (jS hoL hS (by omega) fun out ss' h1 h2 h3=>?_))
  refine wpAny_pure ⟨_,rfl,?_⟩
  obtain ⟨ep2,he⟩:=sortedHeap_at (out:=out) hoL
  have I1:L2.Inv X pins σ H { s with heap:=h',toks:=tk }:=I.kept (t':=tk) hk
  have kp:∀ b o,h'.get? b=some o→(sortedHeap (h'.push { cls:=.type "list",data:=.seq acc.toList.toArray }) h'.objs.size acc.toList out).get? b=some o:=fun b o e=>by
   have hb:=Heap.lt_size e
   rw [sortedHeap_old (Nat.ne_of_lt hb) (by rw [Heap.size_push];exact Nat.lt_succ_of_lt hb)]
   exact CO _ e
  have hz2:(ss'.map V.str).length≤sizeLine:=by rw [CK,h2.length_eq];exact gg (by omega)
  have I2:L2.Inv X pins σ (upd H h'.objs.size (.lst (ss'.map V.str))) { s with heap:=sortedHeap (h'.push { cls:=.type "list",data:=.seq acc.toList.toArray }) h'.objs.size acc.toList out,toks:=tk } :=
   I1.laid (t':=tk) kp (Nat.le_refl _) (show cc X.prog X.w _ _ _ (.lst (ss'.map V.str)) from ⟨hz2,out.toList,ep2,de h1,he⟩)
  have fr:H h'.objs.size=none:=I1.hok.fresh (Nat.le_refl _)
  refine⟨.ref _,_,I2,rfl,k _ (h ss' h2 h3) _ _ (aJ fr _) ?_⟩
  unfold Rep
  exact⟨_,_,rfl,fun z=>m _ z fr,aI,df ss'⟩
def pz:List D→(D→Prop)→Prop
 | [.lst xs],R=>R (.tup xs)
 | [.fz xs],R=>R (.tup xs)
 | [.tup xs],R=>R (.tup xs)
 | _,_=>False
theorem sL {d0:List D} {R:D→Prop} (h:pz d0 R):(∃ (xs:List D),d0=[.lst xs]∧R (.tup xs))∨(∃ (xs:List D),d0=[.fz xs]∧R (.tup xs))∨(∃ (xs:List D),d0=[.tup xs]∧R (.tup xs)):=by
 rcases d0 with _ | ⟨a,_ | ⟨b,l⟩⟩
 ·exact False.elim h
 ·cases a<;>first | exact False.elim h | exact .inl ⟨_,rfl,h⟩ | exact .inr (.inl ⟨_,rfl,h⟩) | exact .inr (.inr ⟨_,rfl,h⟩)
 ·cases a<;>exact False.elim h
theorem qN {xs:List D} {R:D→Prop}:pz [.lst xs] R↔R (.tup xs):=Iff.rfl
theorem qA {xs:List D} {R:D→Prop}:pz [.tup xs] R↔R (.tup xs):=Iff.rfl
theorem fe:cj X (.type "tuple") (a6 X.K pz) :=
 cj.imp gl fun xs H Q h_0=>by
  obtain ⟨M,ds,R,m,rs,h,k⟩:=h_0
  replace h:=sL h
  rcases h with ⟨_,rfl,h⟩ | ⟨_,rfl,h⟩ | ⟨_,rfl,h⟩
  ·obtain ⟨x,rfl,q⟩:=bG rs
   unfold Rep at q
   obtain ⟨a,vs,rfl,_,e,r⟩:=q
   refine⟨a,vs,rfl,.inl ⟨SqL.of e,fun l hl=>k _ h _ _ (aJ hl _) ?_⟩⟩
   unfold Rep
   exact⟨l,vs,rfl,SqT.of aI,Reps.kp (Kp.of_same (aJ hl _)) _ _ r⟩
  ·obtain ⟨x,rfl,q⟩:=bG rs
   unfold Rep at q
   obtain ⟨a,vs,rfl,e,r⟩:=q
   refine⟨a,vs,rfl,.inl ⟨e.seq,fun l hl=>k _ h _ _ (aJ hl _) ?_⟩⟩
   unfold Rep
   exact⟨l,vs,rfl,SqT.of aI,Reps.kp (Kp.of_same (aJ hl _)) _ _ r⟩
  ·obtain ⟨x,rfl,q⟩:=bG rs
   have q0:=q
   unfold Rep at q
   obtain ⟨a,vs,rfl,e,r⟩:=q
   exact⟨a,vs,rfl,.inr ⟨e,k _ h _ _ (Same.refl H) q0⟩⟩
theorem oZ {pos:Pos}:DE X (.Dict [] [] pos) (dC (.dct [] [])) :=
 PE.imp oI fun σ H Q ⟨G,δ,P,R,⟨A,x⟩,r,k,_⟩=>fun p hp=>by
  refine k _ δ r (.ref p) _ ⟨A,(x.same (aJ hp (.dK []))).push ?_⟩
  unfold Rep
  exact⟨p,[],rfl,fun z=>x.mem p z hp,aI,rfl,Reps.nil⟩
variable {a b e:Expr} {ta tb:TDE} {pos:Pos}
theorem dN (hu:X.A.units + 64 < cLine) (ha:DE X a ta) (hb:DE X b tb) (hs:NoSl b):DE X (.Subscript a b pos) (dOp vC ta tb) :=
 PE.imp (xD (by omega) ha hb hs) fun σ H Q ⟨G,δ,P,R,s,h,k,_⟩=>up.mk s h fun x δ1 h1 v H1 s1=>up.mk s1 h1 fun y δ2 h2 u H2 s2=>by
  replace h2:=vS h2
  rcases h2 with ⟨ks,ds,z,eq,h2⟩ | ⟨ks,ds,z,eq,h2⟩
  ·skip
   cases eq
   obtain ⟨d,ed,r⟩:=h2
   obtain ⟨A,q⟩:=id s2
   have p1:=q.pnd (.dct ks ds,v) (by simp)
   have p2:u=.str z:=bW (q.pnd (.str z,u) (by simp))
   unfold Rep at p1
   obtain ⟨a,vs,rfl,_,he,l,rs⟩:=p1
   obtain ⟨w',hw,rw'⟩:=(Reps.dAt z ks ds vs rs).1 d ed
   refine⟨a,w',rfl,?_,k d δ2 r w' H2 ⟨A,(q.sub (P':=P) fun p hp=>by simp [hp]).push rw'⟩⟩
   have g:=DGet.k (k:=Sum.inr z) he
   rw [gk,hw] at g
   rw [p2]
   exact g
  ·skip
   cases eq
   obtain ⟨d,ed,r⟩:=h2
   obtain ⟨A,q⟩:=id s2
   have p1:=q.pnd (.fd ks ds,v) (by simp)
   have p2:u=.str z:=bW (q.pnd (.str z,u) (by simp))
   unfold Rep at p1
   obtain ⟨a,vs,o,rfl,he,l,rs⟩:=p1
   obtain ⟨w',hw,rw'⟩:=(Reps.dAt z ks ds vs rs).1 d ed
   refine⟨a,w',rfl,?_,k d δ2 r w' H2 ⟨A,(q.sub (P':=P) fun p hp=>by simp [hp]).push rw'⟩⟩
   have g:DGet H2 a (kV (Sum.inr z)) (valV (a4 ks vs) (Sum.inr z)):=.inl ⟨_,_,.inr ⟨o,he⟩,rfl,rfl⟩
   rw [gk,hw] at g
   rw [p2]
   exact g
def zQ (i:Nat) (tv tk:TDE):TDS:=fun R δ=>tv δ (wd fun x δ1=>∃ a ks ds,δ1[i]?=some (.own a (.dct ks ds))∧tk δ1 (wd fun z δ2=>∃ ks ds y,δ2[i]?=some (.own a (.dct ks ds))∧z=.str y∧ks.length < 9000∧R.nx (δ2.set i (.own a (.dct (kPut ks y) (vPut ks ds y x))))))
theorem gC (i:Nat) {y:Str} {p pos':Pos} (hu:X.A.units + 64 < cLine) (he:DE X e ta) (hb:DE X b tb) (hN:X.N[i]?=some y:=by rfl) (hv:Vis X.env.scope y:=by walk_at "v3")
  (hd:(y == ("__debug__":Str))=false:=by decide) (hcd:(y == ("__classdict__":Str))=false:=by decide) (hs:swapsWith e (some (.Subscript (.Name y p) b pos')) pos.line X.env=pure false:=by rfl) :
  DS X (.Assign [.Subscript (.Name y p) b pos'] e pos) (zQ i ta tb) :=
 PS.imp (xL (by omega) (eA hN hv hd hcd) hb he hs) fun E σ H h_0=>by obtain ⟨G,δ,P,R,s,h,k,_⟩:=h_0;exact up.mk s h fun x δ1 ⟨a,ks0,ds0,hi0,h1⟩ v H1 s1=>⟨.ref a,s1.own hi0,up.mk s1 h1 fun z δ2 ⟨ks,ds,y,hi,ez,hz,r⟩ u H2 ⟨A,q⟩=>by
  subst ez
  obtain ⟨_,aa,vs,hvs,l,rs⟩:=q.own i a _ hi
  have lv:=Reps.length _ _ rs
  have p2:u=.str y:=bW (q.pnd (.str y,u) (by simp))
  have hlen:(a4 ks vs).length < sizeLine:=by
   unfold a4
   rw [List.length_zip,CK]
   exact iD (by omega)
  have g:=DPut.k (k:=Sum.inr y) (v:=v) hvs hlen
  rw [yS y v (by omega)] at g
  refine⟨a,_,rfl,by rw [p2];exact g,k _ r _ _ ⟨A,(q.change (d':=.dct (kPut ks y) (vPut ks ds y x)) hi (fun b o n e=>by rw [aO n];exact e) ⟨vPut ks vs y v,aI,yX l,?_⟩).sub (P':=P) fun q hq=>CL _ (CL _ hq)⟩⟩
  have kp:Kp (fun b=>G.M0 b∨A b) H2 (upd H2 a (.dK (a4 (kPut ks y) (vPut ks vs y v)))):=by
   have hk:∀ b o,b≠a→H2 b=some o→upd H2 a (.dK (a4 (kPut ks y) (vPut ks vs y v))) b=some o:=fun b o n e=>by rw [aO n];exact e
   exact⟨fun b o e n=>hk b o (fun z=>n (.inr (by rw [z];exact aa))) e,fun b xs e=>hk b _ (fun z=>by rw [z,hvs] at e;cases e) e,fun b o u e=>hk b _ (fun z=>by rw [z,hvs] at e;cases e) e⟩
  exact Reps.kp kp _ _ (Reps.put y rs (q.pnd (x,v) (by simp)))⟩
def zv:TDS:=fun R δ=>R.rt .non δ
theorem yA {pos:Pos}:DS X (.Return none pos) zv:=PS.imp yO fun E σ H h_0=>by obtain ⟨G,δ,P,R,s,h,_,k,_⟩:=h_0;exact k.1 .non δ h .non σ H (s.sc rfl)
end
end DL
namespace DL
open PySem PySem.Spec PyProof.Rows L2
section
variable {prog:Program} {w:World} {A:Around} {E:Value→Shared→Prop}
theorem jQ {it l:Addr} {us:List Value} (ne:l≠it):∀ (rest:List Value) (i:Nat) (s:Shared) (Q:List Value→Shared→Prop),us.drop i=rest→s.heap.IsListIter it l i→s.heap.IsList l us.toArray →
  (∀ h',h'.IsListIter it l (i + rest.length)→Heap.SameBut it s.heap h'→Q rest { s with heap:=h' })→wpAny (model prog w) A (draw (.ref it) rest.length) Q E s
 | [],i,s,Q,_,si,_,k=>wpAny_pure (k s.heap si (Heap.SameBut.refl ..))
 | u :: rest,i,s,Q,e,si,sl,k=>by
  have hu:us[i]?=some u:=by
   have:=congrArg (fun z=>z[0]?) e
   simpa using this
  have hr:us.drop (i + 1)=rest:=by
   have:=congrArg List.tail e
   rw [List.tail_drop] at this
   simpa using this
  refine wpAny_bind (wpAny_pyNext_list_item si sl (x:=u) (by simpa using hu) fun h1 s1 b1=>wpAny_bind (wpAny_holding ?_))
  have sl1:h1.IsList l us.toArray:=by
   obtain ⟨o,ho,r⟩:=sl
   exact⟨o,(b1.2 l ne).trans ho,r⟩
  refine jQ ne rest (i + 1) { s with heap:=h1 } _ hr s1 sl1 fun h2 s2 b2=>wpAny_pure ?_
  refine k h2 ?_ (b1.trans b2)
  rw [CZ,Nat.add_comm rest.length 1,← Nat.add_assoc]
  exact s2
theorem kW {l:Addr} {us:List Value} {s:Shared} {Q:List Value→Shared→Prop} (hh:A.handled=none) (sl:s.heap.IsList l us.toArray)
  (k:∀ h',(∀ b o,s.heap.get? b=some o→h'.get? b=some o)→Q us { s with heap:=h' }):wpAny (model prog w) A (unpackItems (.ref l) us.length none) Q E s:=by
 have hlt:l < s.heap.objs.size:=let ⟨_,ho,_⟩:=sl;Heap.lt_size ho
 have ty:s.TypeIs (.ref l) "list":=let ⟨o,ho,hc,_⟩:=sl;⟨o,ho,hc⟩
 unfold unpackItems notIterableAtAll
 refine wpAny_bind (wpAny_bind (wpAny_specialOf ty F.slot_list_iter.lookup (wpAny_pure ?_)))
 rw [if_neg Bool.false_ne_true]
 refine wpAny_bind (wpAny_holding (wpAny_pyIter_list sl (wpAny_bind (wpAny_holding ?_))))
 have sl0:∀ o:Obj,(s.heap.push o).IsList l us.toArray:=fun o=>let ⟨q,ho,r⟩:=sl;⟨q,CO _ ho,r⟩
 refine jQ (us:=us) (Nat.ne_of_lt hlt) us 0 _ _ (List.drop_zero ..) ⟨_,Da _ rfl,rfl,rfl⟩ (sl0 _) fun h1 s1 b1=>?_
 rw [if_neg (Nat.lt_irrefl _)]
 have sl1:h1.IsList l us.toArray:=by
  obtain ⟨o,ho,r⟩:=sl
  exact⟨o,(b1.2 l (Nat.ne_of_lt hlt)).trans (CO _ ho),r⟩
 refine wpAny_bind (wpAny_holding (wpAny_pyNext_list_end hh s1 sl1 (by simp) fun h2 b2=>?_))
 rw [if_neg (show ¬ ((none:Option Value).isSome=true) from Bool.false_ne_true)]
 refine wpAny_pure (k h2 fun b o e=>?_)
 have nb:b≠s.heap.objs.size:=Nat.ne_of_lt (Heap.lt_size e)
 exact b2 b o nb ((b1.2 b nb).trans (CO _ e))
end
section
variable {X:Cx} {pos:Pos}
def gLst (K:PySem.W.Frag) (n:Nat) (t:TGs):TG:=fun v σ H Q=>∃ a xs,v=.ref a∧SqL K H a xs∧xs.length=n∧t xs σ H Q
theorem Bg {es:List Expr} {k:Nat} {t:TGs} {n:Nat} (hc:X.calm=true) (h:PGs X es t) (hn:(assignEach es X.env).length=n:=by rfl) (hst:(assignEach es X.env).findIdx? (·.1)=none:=by rfl):PG X (.Tuple es k pos) (gLst X.K n t):=by
 intro pins s σ H v u Q I r ⟨a,xs,e,hq,hl,hw⟩
 subst e
 cases r
 obtain ⟨us,rv,pl,_⟩:=I.list hq
 rw [arm_assign_Tuple]
 refine wpAny_bind (wpAny_standAt ?_)
 unfold unpack
 rw [hst,hn,← hl,rv.length]
 exact wpAny_bind (wpAny_holding (kW (I.ok.hd hc) pl.isList fun h' kp=>h pins _ σ H xs _ Q (I.kept (t':=s.toks) kp) rv hw))
def A5 (n:Nat) (t:TDGs):TDG:=fun d δ R=>∃ xs,d=.lst xs∧xs.length=n∧t xs δ R
theorem wC {es:List Expr} {kk n:Nat} {gs:TDGs} (hc:X.calm=true) (h:DGs X es gs) (hn:(assignEach es X.env).length=n:=by rfl) (hst:(assignEach es X.env).findIdx? (·.1)=none:=by rfl):DG X (.Tuple es kk pos) (A5 n gs) :=
 PG.imp (Bg hc h hn hst) fun v σ H Q h_0=>by
  obtain ⟨G,δ,P,d,R,⟨A,x⟩,⟨xs,e,hl,h⟩,k⟩:=h_0
  subst e
  have q:=x.pnd (.lst xs,v) (by simp)
  unfold Rep at q
  obtain ⟨a,vs,e,_,sq,r⟩:=q
  subst e
  have lv:=Reps.length _ _ r
  refine⟨a,vs,rfl,SqL.of sq,by rw [← lv];exact hl,G,δ,P,xs,R,lv,⟨A,?_⟩,h,k⟩
  have each:∀ (ds:List D) (ws:List V),Reps X.K (fun b=>G.M0 b∨A b) H ds ws→∀ p∈ds.zip ws,Rep X.K (fun b=>G.M0 b∨A b) H p.1 p.2:=by
   intro ds
   induction ds with
   | nil=>intro ws _ p hp;cases hp
   | cons d ds ih =>
    intro ws hr p hp
    unfold Reps at hr
    obtain ⟨w',rest,rfl,q1,q2⟩:=hr
    rcases CQ.mp hp with rfl | hp
    ·exact q1
    ·exact ih rest q2 p hp
  have y:=x.sub (P':=P) fun p hp=>CL _ hp
  exact⟨y.old,y.stay,y.m0,y.pm,y.new,y.thr,y.len,y.dat,y.own,y.inj,fun p hp=>(CV.mp hp).elim (each xs vs r p) (y.pnd p)⟩
end
end DL
namespace DL
open PySem PySem.Spec PyProof.Rows L2
structure GInt (mg:Str→Option Value) (x:Str) (i:Int):Prop where
 ex:∃ t,mg x=some (.int i t)
structure GTab (K:PySem.W.Frag) (mg:Str→Option Value) (x:Str) (D:List (Str×Str)):Prop where
 ex:∃ a,mg x=some (.ref a)∧KTD.tabLook (KTD.datLooks fun b=>K.lookup b) (fun b=>K.lookup b) a (txt D)=true
theorem wA (k:Str):∀ D:List (Str×Str),KTD.datumAt k (txt D)=(KTD.datumAt k D).map fun v=>KTD.Dat.flat (.str v)
 | []=>rfl
 | (x,d) :: D=>by
  show (if decide (k=x)=true then some (KTD.Dat.flat (.str d)) else KTD.datumAt k (txt D))=(if decide (k=x)=true then some d else KTD.datumAt k D).map _
  rw [wA k D]
  by_cases h:decide (k=x)=true
  ·rw [if_pos h,if_pos h];rfl
  ·rw [if_neg h,if_neg h]
theorem oB {h:Heap} {k:Str} {P:Value→Prop}:∀ (D:List (Str×Str)),(∀ v,KTD.datumAt k D=some v→∀ t,P (.str v t))→KTD.EachL h k P (txt D)
 | [],_=>trivial
 | (x,d) :: D,hq=>by
  show KTD.EachL h k P ((x,KTD.Dat.flat (.str d)) :: txt D)
  by_cases e:k=x
  ·exact KTD.eachL_hit e (KTD.opened_str fun t=>hq d (by show (if decide (k=x)=true then some d else _)=_;rw [if_pos (decide_eq_true e)]) t)
  ·exact KTD.eachL_miss e (oB D fun v hv=>hq v (by show (if decide (k=x)=true then some d else _)=_;rw [if_neg (by simp [e])];exact hv))
section
variable {X:Cx} {b:Expr} {tb:TDE} {pos p:Pos}
theorem rF {x:Str} {i:Int} (hg:Gl X x) (h:GInt X.mg x i) (hd:(x == ("__debug__":Str))=false:=by decide):DE X (.Name x pos) (dC (.int i)):=by
 obtain ⟨t,e⟩:=h.ex
 exact de_c (mC (v:=.int i) hg e ⟨t,rfl⟩ hd) rfl
def AF (D:List (Str×Str)) (ty:TE):TE:=fun σ H Q=>ty σ H fun y H1=>∃ k v,y=.str k∧KTD.datumAt k D=some v∧Q (.str v) H1
theorem yz {x:Str} {D:List (Str×Str)} {ty:TE} (hg:Gl X x) (T:GTab X.K X.mg x D) (hb:PE X b ty) (hs:NoSl b) (hd:(x == ("__debug__":Str))=false:=by decide):PE X (.Subscript (.Name x p) b pos) (AF D ty):=by
 obtain ⟨a,hm,hl⟩:=T.ex
 intro pins s σ H Q I h
 refine Subscript_ (thn (mC (v:=.ref a) hg hm rfl hd pins s σ H (fun y0 H0=>y0=.ref a∧AF D ty σ H0 Q) I ⟨rfl,h⟩) fun u s1 ⟨y0,H0,I0,r0,e0,q0⟩=>?_)
 subst e0
 cases r0
 refine thn (hb pins s1 σ H0 _ I0 q0) fun iv s2 h_0=>?_
 obtain ⟨y,H1,I1,ry,k,v,ey,ev,q⟩:=h_0
 subst ey
 obtain ⟨t,rfl⟩:=ry
 have T2:KTD.TextTab s2.heap a (txt D):=PySem.W.kt_text_in I1.kIn hl
 refine KTD.item_text (h₀:=s2.heap) (D:=txt D) ⟨T2,fun _ _ e=>e⟩ ?_ (oB D fun v' hv t'=>?_) (hs _ _)
 ·rw [← KTD.isSome_datumAt,wA,ev];rfl
 ·rw [ev] at hv
  cases hv
  exact⟨.str v,H1,I1.tok _,⟨t',rfl⟩,q⟩
def BD (D:List (Str×Str)) (t:TDE):TDE:=fun δ R=>t δ (wd fun z δ1=>∃ k v,z=.str k∧KTD.datumAt k D=some v∧R (.d (.str v)) δ1)
theorem sS {x:Str} {D:List (Str×Str)} (hg:Gl X x) (T:GTab X.K X.mg x D) (hb:DE X b tb) (hs:NoSl b) (hd:(x == ("__debug__":Str))=false:=by decide):DE X (.Subscript (.Name x p) b pos) (BD D tb) :=
 PE.imp (yz hg T hb hs hd) fun σ H Q ⟨G,δ,P,R,s,h,k,_⟩=>up.mk s h fun z δ1 ⟨y,v,ez,ev,r⟩ u H1 s1=>by
  subst ez
  obtain ⟨A,q⟩:=id s1
  exact⟨y,v,bW (q.pnd (.str y,u) (by simp)),ev,k _ δ1 r _ H1 ((s1.sub (P':=P) fun p hp=>by simp [hp]).sc rfl)⟩
end
end DL
namespace DL
open PySem PySem.Spec PyProof.Rows L2
def fMax:List D→(D→Prop)→Prop
 | [.int i,.int j],R=>R (.int (max i j))
 | [.lst ds],R=>∃ ns:List Int,ds=ns.map D.int∧0 < ns.length∧∀ M∈ns,(∀ a∈ns,a≤M)→R (.int M)
 | _,_=>False
theorem xn {d0:List D} {R:D→Prop} (h:fMax d0 R):(∃ (i:Int) (j:Int),d0=[.int i,.int j]∧R (.int (max i j)))∨(∃ (ds:List D),d0=[.lst ds]∧∃ ns:List Int,ds=ns.map D.int∧0 < ns.length∧∀ M∈ns,(∀ a∈ns,a≤M)→R (.int M)):=by
 rcases d0 with _ | ⟨a,_ | ⟨b,_ | ⟨c,l⟩⟩⟩
 ·exact False.elim h
 ·cases a<;>first | exact False.elim h | exact .inl ⟨_,_,rfl,h⟩ | exact .inr ⟨_,rfl,h⟩
 ·cases a<;>first | exact False.elim h | (cases b<;>first | exact False.elim h | exact .inl ⟨_,_,rfl,h⟩ | exact .inr ⟨_,rfl,h⟩)
 ·cases a<;>first | exact False.elim h | (cases b<;>exact False.elim h)
theorem uo {i j:Int} {R:D→Prop}:fMax [.int i,.int j] R↔R (.int (max i j)):=Iff.rfl
theorem vT {ds:List D} {R:D→Prop}:fMax [.lst ds] R↔∃ ns:List Int,ds=ns.map D.int∧0 < ns.length∧∀ M∈ns,(∀ a∈ns,a≤M)→R (.int M):=Iff.rfl
theorem lC {K:PySem.W.Frag} {M:Addr→Prop} {H:Hp}:∀ {ns:List Int} {vs:List V},Reps K M H (ns.map D.int) vs→vs=ns.map V.int
 | [],vs,h=>by unfold Reps at h;exact h
 | s :: ss,vs,h=>by
  rw [List.map_cons] at h
  unfold Reps at h
  obtain ⟨v,r,rfl,q,t⟩:=h
  rw [aT q,lC t];rfl
theorem jM:∀ {ns:List Int} {us:List Value},Vals (ns.map V.int) us→IntsAre us ns
 | [],_,r=>by rw [List.map_nil] at r;cases r;exact .nil
 | n :: ns,_,r=>by
  rw [List.map_cons] at r
  cases r with
  | @cons _ u _ us h t =>
   obtain ⟨t',e⟩:=(show ∃ t,u=Value.int n t from h)
   subst e
   exact .cons _ _ (jM t)
theorem Ce {X:Cx} (hc:X.calm=true):cj X (.builtin "max") (a6 X.K fMax):=by
 intro pins s σ H xs us Q I rv h
 obtain ⟨M,ds,R,m,rs,h,k⟩:=h
 replace h:=xn h
 rcases h with ⟨i,j,rfl,h⟩ | ⟨_,rfl,h⟩
 ·skip
  refine sZ hc pins s σ H xs us Q I rv ?_
  obtain ⟨x,y,rfl,h1,h2⟩:=kX rs
  refine⟨i,j,by rw [aT h1,aT h2],k _ h _ H (Same.refl H) ?_⟩
  unfold Rep
  congr 1
  by_cases z:j > i
  ·rw [if_pos z];omega
  ·rw [if_neg z];omega
 ·obtain ⟨ns,rfl,hpos,h⟩:=h
  obtain ⟨x,rfl,q⟩:=bG rs
  unfold Rep at q
  obtain ⟨a,vs,rfl,_,e,r⟩:=q
  obtain ⟨u,rfl,ru⟩:=gw rv
  cases ru
  cases lC r
  obtain ⟨its,rv2,pl,_⟩:=I.list (SqL.of e)
  have hi:=jM rv2
  obtain ⟨ys,ey⟩:=hi.allInts.items
  have hn:ys.toList.map (·.1)=ns:=by
   have e1:=nums_intItems ys
   rw [← ey] at e1
   exact e1.symm.trans hi.numsOf
  have hz:ys.size=ns.length:=by rw [← hn,CK,Array.length_toList]
  have hl:=pl.isList
  rw [ey] at hl
  refine max_intList (I.ok.hd hc) hl (by omega) fun v h' tk hv hk=>?_
  obtain ⟨t,rfl⟩:=intItems_at hv
  obtain ⟨h1,h2⟩:=argBest_gt (numAt ys) (ys.size - 1)
  refine⟨.int _,H,I.kept (t':=tk) hk,⟨t,rfl⟩,k _ (h _ ?_ fun b hb=>?_) _ H (Same.refl H) (Rep.sc rfl)⟩
  ·rw [numAt_eq,hn]
   have hlt:argBest (fun i j=>decide (numAt ys i > numAt ys j)) (ys.size - 1) < ns.length:=by omega
   rw [List.getD_eq_getElem?_getD,Dk hlt]
   exact Dj hlt
  ·obtain ⟨j,hj,ej⟩:=List.getElem_of_mem hb
   have:=h2 j (by omega)
   rw [numAt_eq ys j,hn] at this
   have ej2:ns.getD j 0=b:=by rw [List.getD_eq_getElem?_getD,Dk hj];exact ej
   rw [ej2] at this
   exact this
end DL
namespace Mf
def gc (a b:Int):Int:=(Int.gcd a b:Nat)
theorem yh (a b:Int):gc b (a.fmod b)=gc a b:=by
 unfold gc
 rw [Int.fmod_def,Int.gcd_sub_mul_left_right,Int.gcd_comm]
theorem jA (a b:Int) (hb:b≠0):(a.fmod b).natAbs < b.natAbs:=by
 rcases Int.lt_or_gt_of_ne hb with h | h
 ·have e:a.fmod b=-((-a).fmod (-b)):=by
   have h1:(-a).fdiv (-b)=a.fdiv b:=Int.neg_fdiv_neg a b
   rw [Int.fmod_def,Int.fmod_def,h1,Int.neg_mul]
   omega
  have h1:=Int.fmod_nonneg_of_pos (-a) (b:=-b) (by omega)
  have h2:=Int.fmod_lt_of_pos (-a) (b:=-b) (by omega)
  rw [e]
  omega
 ·have h1:=Int.fmod_nonneg_of_pos a h
  have h2:=Int.fmod_lt_of_pos a h
  omega
theorem yL (a:Int):gc a 0=if a < 0 then -a else a:=by
 unfold gc
 rw [Int.gcd_zero_right]
 split<;>omega
theorem sI (a b:Int):0≤gc a b:=by unfold gc;omega
theorem wc (a:Int) {b:Int} (h:b≠0):0 < gc a b:=by
 unfold gc
 have:=Int.gcd_pos_of_ne_zero_right a h
 omega
theorem fk (a b:Int):gc a b ∣ a:=Int.gcd_dvd_left a b
theorem eo (a b:Int):gc a b ∣ b:=Int.gcd_dvd_right a b
structure Low (p q:Int):Prop where
 pos:0 < q
 cop:gc p q=1
theorem Low.cop' {p q:Int} (h:Low p q):Int.gcd p q=1:=by have:=h.cop;unfold gc at this;omega
theorem Low.ne {p q:Int} (h:Low p q):q≠0:=by have:=h.pos;omega
theorem Low.uniq {p q p' q':Int} (h:Low p q) (h':Low p' q') (e:p * q'=p' * q):p=p'∧q=q':=by
 have d1:q ∣ q':=by
  have:q ∣ p * q':=⟨p',by rw [e,Int.mul_comm]⟩
  have g:Int.gcd q p=1:=by rw [Int.gcd_comm];exact h.cop'
  have k:=(Int.dvd_gcd_mul_iff_dvd_mul (k:=q) (n:=p) (m:=q')).mpr this
  rw [g] at k
  simpa using k
 have d2:q' ∣ q:=by
  have:q' ∣ p' * q:=⟨p,by rw [← e,Int.mul_comm]⟩
  have g:Int.gcd q' p'=1:=by rw [Int.gcd_comm];exact h'.cop'
  have k:=(Int.dvd_gcd_mul_iff_dvd_mul (k:=q') (n:=p') (m:=q)).mpr this
  rw [g] at k
  simpa using k
 have eq:q=q':=by
  have a1:=Int.le_of_dvd h'.pos d1
  have a2:=Int.le_of_dvd h.pos d2
  omega
 subst eq
 exact⟨Int.eq_of_mul_eq_mul_right h.ne e,rfl⟩
def dv (t b:Int):Int:=if b < 0 then -(gc t b) else gc t b
def mkT (t b:Int):Int:=t.fdiv (dv t b)
def mkB (t b:Int):Int:=b.fdiv (dv t b)
theorem Bz (t:Int) {b:Int} (h:b≠0):dv t b≠0:=by
 have:=wc t h
 unfold dv
 split<;>omega
theorem mK (t b:Int):dv t b ∣ t:=by
 unfold dv
 split
 ·exact (Int.neg_dvd).mpr (fk t b)
 ·exact fk t b
theorem lc (t b:Int):dv t b ∣ b:=by
 unfold dv
 split
 ·exact (Int.neg_dvd).mpr (eo t b)
 ·exact eo t b
theorem rZ (t b:Int):mkT t b * dv t b=t:=Int.fdiv_mul_cancel (mK t b)
theorem ti (t b:Int):mkB t b * dv t b=b:=Int.fdiv_mul_cancel (lc t b)
theorem l9 (t b:Int):(dv t b).natAbs=Int.gcd t b:=by
 unfold dv gc
 split<;>omega
theorem eU (t:Int) {b:Int} (h:b≠0):Low (mkT t b) (mkB t b):=by
 have e1:=rZ t b
 have e2:=ti t b
 have hd:=Bz t h
 constructor
 ·unfold dv at e2 hd
  have gp:=wc t h
  by_cases hb:b < 0
  ·rw [if_pos hb] at e2
   have:mkB t b * gc t b=-b:=by rw [Int.mul_neg] at e2;omega
   exact Int.pos_of_mul_pos_left (by omega) gp |> fun z=>z
  ·rw [if_neg hb] at e2
   exact Int.pos_of_mul_pos_left (by omega) gp |> fun z=>z
 ·have g:Int.gcd (mkT t b * dv t b) (mkB t b * dv t b)=Int.gcd (mkT t b) (mkB t b) * (dv t b).natAbs:=Int.gcd_mul_right _ _ _
  rw [e1,e2,l9] at g
  have gp:=Int.gcd_pos_of_ne_zero_right t h
  unfold gc
  have:Int.gcd (mkT t b) (mkB t b)=1:=by
   have g2:1 * Int.gcd t b=Int.gcd (mkT t b) (mkB t b) * Int.gcd t b:=by rw [Nat.one_mul];exact g
   exact (Nat.eq_of_mul_eq_mul_right gp g2).symm
  omega
theorem oX (t b:Int):mkT t b * b=t * mkB t b:=by
 have e1:=rZ t b
 have e2:=ti t b
 calc mkT t b * b=mkT t b * (mkB t b * dv t b):=by rw [e2]
  _=(mkT t b * dv t b) * mkB t b:=by rw [Int.mul_assoc,Int.mul_comm (mkB t b)]
  _=t * mkB t b:=by rw [e1]
theorem zd {t b p q:Int} (hb:b≠0) (h:Low p q) (e:p * b=t * q):mkT t b=p∧mkB t b=q:=by
 refine (eU t hb).uniq h ?_
 have c:=oX t b
 refine Int.eq_of_mul_eq_mul_right hb ?_
 calc mkT t b * q * b=mkT t b * b * q:=by rw [Int.mul_assoc,Int.mul_comm q,← Int.mul_assoc]
  _=t * mkB t b * q:=by rw [c]
  _=(t * q) * mkB t b:=by rw [Int.mul_assoc,Int.mul_comm (mkB t b),← Int.mul_assoc]
  _=p * b * mkB t b:=by rw [e]
  _=p * mkB t b * b:=by rw [Int.mul_assoc,Int.mul_comm b,← Int.mul_assoc]
theorem Low.self {p q:Int} (h:Low p q):mkT p q=p∧mkB p q=q:=zd h.ne h rfl
end Mf
namespace Mf
open PySem L2 DL
def bot (q:Str→Int):List Str→Int
 | []=>1
 | n :: r=>q n * bot q r
theorem gI (q:Str→Int) (l r:List Str):bot q (l++r)=bot q l * bot q r:=by
 induction l with
 | nil=>show bot q r=1 * bot q r;rw [Int.one_mul]
 | cons x l ih=>show q x * bot q (l++r)=q x * bot q l * bot q r;rw [ih,Int.mul_assoc]
theorem my (q:Str→Int) (n:Str):bot q [n]=q n:=by show q n * 1=q n;rw [Int.mul_one]
theorem cV {q:Str→Int}:∀ {l:List Str},(∀ n∈l,0 < q n)→0 < bot q l
 | [],_=>(by decide:(0:Int) < 1)
 | n :: r,h=>Int.mul_pos (h n (CP ..)) (cV fun m hm=>h m (CL _ hm))
theorem dY {q:Str→Int}:∀ {l:List Str} {n:Str},n∈l→q n ∣ bot q l
 | x :: r,n,h=>by
  rcases CQ.mp h with rfl | h
  ·exact Int.dvd_mul_right _ _
  ·exact Int.dvd_trans (dY h) (Int.dvd_mul_left _ _)
theorem vf {q:Str→Int} {l r:List Str} (h:l.Perm r):bot q l=bot q r:=by
 induction h with
 | nil=>rfl
 | cons x _ ih=>show q x * _=q x * _;rw [ih]
 | swap x y l=>show q y * (q x * bot q l)=q x * (q y * bot q l);rw [← Int.mul_assoc,← Int.mul_assoc,Int.mul_comm (q y)]
 | trans _ _ h1 h2=>rw [h1,h2]
def sumT (f:Str→Int):List (Str×Int)→Int
 | []=>0
 | t :: r=>t.2 * f t.1 + sumT f r
theorem jb (f:Str→Int) (l r:List (Str×Int)):sumT f (l++r)=sumT f l + sumT f r:=by
 induction l with
 | nil=>show sumT f r=0 + sumT f r;rw [Int.zero_add]
 | cons x l ih=>show x.2 * f x.1 + sumT f (l++r)=x.2 * f x.1 + sumT f l + sumT f r;rw [ih,Int.add_assoc]
theorem pP (f:Str→Int) (t:Str×Int):sumT f [t]=t.2 * f t.1:=by show t.2 * f t.1 + 0=_;rw [Int.add_zero]
theorem gA {f g:Str→Int}:∀ {l:List (Str×Int)},(∀ t∈l,f t.1=g t.1)→sumT f l=sumT g l
 | [],_=>rfl
 | t :: r,h=>by show t.2 * f t.1 + _=t.2 * g t.1 + _;rw [h t (CP ..),gA fun u hu=>h u (CL _ hu)]
theorem iA (f:Str→Int) (k:Int):∀ l:List (Str×Int),k * sumT f l=sumT (fun n=>k * f n) l
 | []=>Int.mul_zero k
 | t :: r=>by
  show k * (t.2 * f t.1 + sumT f r)=t.2 * (k * f t.1) + _
  rw [Int.mul_add,iA f k r,Int.mul_left_comm]
def negT (ts:List (Str×Int)):List (Str×Int):=ts.map fun t=>(t.1,-t.2)
def ov (p q:Str→Int) (B:Int) (n:Str):Int:=p n * B.fdiv (q n)
theorem vN {p q:Str→Int} {B C:Int} {n:Str} (h0:q n≠0) (h:q n ∣ B) (h':q n ∣ C):C * ov p q B n=B * ov p q C n:=by
 obtain ⟨x,rfl⟩:=h
 obtain ⟨y,rfl⟩:=h'
 unfold ov
 rw [Int.mul_fdiv_cancel_left _ h0,Int.mul_fdiv_cancel_left _ h0]
 rw [Int.mul_left_comm,Int.mul_left_comm (q n * x),Int.mul_assoc,Int.mul_assoc,Int.mul_comm y x]
theorem sf {p q:Str→Int} {B C:Int} {ts:List (Str×Int)} (h:∀ t∈ts,q t.1≠0∧q t.1 ∣ B∧q t.1 ∣ C):C * sumT (ov p q B) ts=B * sumT (ov p q C) ts:=by
 rw [iA,iA]
 exact gA fun t ht=>vN (h t ht).1 (h t ht).2.1 (h t ht).2.2
theorem vL {p q:Str→Int} {B:Int} {ts:List (Str×Int)} {t:Str×Int} (h:∀ u∈ts,q u.1≠0∧q u.1 ∣ B) (ht:q t.1≠0) :
  sumT (ov p q B) ts * q t.1 + t.2 * p t.1 * B=sumT (ov p q (B * q t.1)) (ts++[t]):=by
 rw [jb,pP]
 have e1:sumT (ov p q (B * q t.1)) ts=sumT (ov p q B) ts * q t.1:=by
  rw [Int.mul_comm (sumT (ov p q B) ts),iA]
  refine gA fun u hu=>?_
  obtain ⟨h0,x,rfl⟩:=h u hu
  unfold ov
  rw [Int.mul_assoc,Int.mul_fdiv_cancel_left _ h0,Int.mul_fdiv_cancel_left _ h0,Int.mul_comm x,Int.mul_left_comm]
 have e2:ov p q (B * q t.1) t.1=p t.1 * B:=by
  unfold ov
  rw [Int.mul_comm B,Int.mul_fdiv_cancel_left _ ht]
 rw [e1,e2,Int.mul_assoc]
theorem uT {a b B C s t:Int} (hB:0 < B) (hC:0 < C) (e:C * s=B * t):(b * B≤s↔b * C≤t):=by
 constructor
 ·intro h
  have h1:=Int.mul_le_mul_of_nonneg_left h (Int.le_of_lt hC)
  rw [e] at h1
  have h2:B * (b * C)≤B * t:=by rw [Int.mul_left_comm B,Int.mul_comm B C,Int.mul_left_comm b];exact h1
  exact Int.le_of_mul_le_mul_left h2 hB
 ·intro h
  have h1:=Int.mul_le_mul_of_nonneg_left h (Int.le_of_lt hB)
  rw [← e] at h1
  have h2:C * (b * B)≤C * s:=by rw [Int.mul_left_comm C,Int.mul_comm C B,Int.mul_left_comm b];exact h1
  exact Int.le_of_mul_le_mul_left h2 hC
theorem vg {b B C s t:Int} (hB:0 < B) (hC:0 < C) (e:C * s=B * t):(b * B < s↔b * C < t):=by
 constructor
 ·intro h
  have h1:=Int.mul_lt_mul_of_pos_left h hC
  rw [e] at h1
  have h2:B * (b * C) < B * t:=by rw [Int.mul_left_comm B,Int.mul_comm B C,Int.mul_left_comm b];exact h1
  exact Int.lt_of_mul_lt_mul_left h2 (Int.le_of_lt hB)
 ·intro h
  have h1:=Int.mul_lt_mul_of_pos_left h hB
  rw [← e] at h1
  have h2:C * (b * B) < C * s:=by rw [Int.mul_left_comm C,Int.mul_comm C B,Int.mul_left_comm b];exact h1
  exact Int.lt_of_mul_lt_mul_left h2 (Int.le_of_lt hC)
end Mf
namespace DL
open PySem PySem.Spec PyProof.Rows L2
theorem tq {x y:Nat} {r t:List Nat}:ltCps (x :: r) (y :: t)=if x < y then true else if y < x then false else ltCps r t:=by
 show (decide (x < y) || (x == y && ltCps r t))=_
 rcases Nat.lt_trichotomy x y with h | h | h
 ·rw [if_pos h,decide_eq_true h];rfl
 ·subst h
  rw [if_neg (Nat.lt_irrefl x),if_neg (Nat.lt_irrefl x)]
  simp
 ·rw [if_neg (Nat.lt_asymm h),if_pos h,decide_eq_false (Nat.lt_asymm h)]
  have:(x == y)=false:=by simp;omega
  rw [this];rfl
theorem pH:∀ {a b:List Nat},ltCps a b=false→ltCps b a=false→a=b
 | [],[],_,_=>rfl
 | [],y :: s,h,_=>by simp [ltCps] at h
 | x :: r,[],_,h=>by simp [ltCps] at h
 | x :: r,y :: s,h1,h2=>by
  rw [tq] at h1 h2
  rcases Nat.lt_trichotomy x y with h | h | h
  ·rw [if_pos h] at h1;cases h1
  ·subst h
   rw [if_neg (Nat.lt_irrefl x),if_neg (Nat.lt_irrefl x)] at h1 h2
   rw [pH h1 h2]
  ·rw [if_pos h] at h2;cases h2
theorem ji:∀ {a b c:List Nat},ltCps b a=false→ltCps c b=false→ltCps c a=false
 | [],b,c,_,_=>by cases c<;>rfl
 | x :: r,[],c,h,_=>by simp [ltCps] at h
 | x :: r,y :: s,[],_,h=>by simp [ltCps] at h
 | x :: r,y :: s,z :: t,h1,h2=>by
  rw [tq] at h1 h2 ⊢
  rcases Nat.lt_trichotomy y x with h | h | h
  ·rw [if_pos h] at h1;cases h1
  ·subst h
   rw [if_neg (Nat.lt_irrefl y),if_neg (Nat.lt_irrefl y)] at h1
   rcases Nat.lt_trichotomy z y with g | g | g
   ·rw [if_pos g] at h2;cases h2
   ·subst g
    rw [if_neg (Nat.lt_irrefl z),if_neg (Nat.lt_irrefl z)] at h2 ⊢
    exact ji h1 h2
   ·rw [if_neg (Nat.lt_asymm g),if_pos g]
  ·rcases Nat.lt_trichotomy z y with g | g | g
   ·rw [if_pos g] at h2;cases h2
   ·subst g
    rw [if_neg (Nat.lt_asymm h),if_pos h]
   ·have:x < z:=Nat.lt_trans h g
    rw [if_neg (Nat.lt_asymm this),if_pos this]
def leS (a b:Str):Prop:=ltCps b.cps.toList a.cps.toList=false
theorem Bo {a b:Str} (h1:leS a b) (h2:leS b a):a=b:=by
 have:=pH h2 h1
 cases a;cases b
 simp only [Str.mk.injEq] at *
 exact Array.toList_inj.mp this
theorem sC:∀ {ss:List Str},Srt ss→ss.Pairwise leS
 | [],_=>.nil
 | x :: r,h=>by
  have h:risingS x r=true:=h
  have key:∀ (r:List Str) (x:Str),risingS x r=true→(∀ y∈r,leS x y)∧r.Pairwise leS:=by
   intro r
   induction r with
   | nil=>intro x _;exact⟨fun y hy=>(nomatch hy),.nil⟩
   | cons y r ih =>
    intro x h
    unfold risingS at h
    obtain ⟨h1,h2⟩:=Dh.mp h
    have h1:leS x y:=by unfold leS;cases q:ltCps y.cps.toList x.cps.toList with
     | false=>rfl
     | true=>rw [q] at h1;cases h1
    obtain ⟨i1,i2⟩:=ih y h2
    refine⟨fun z hz=>?_,.cons i1 i2⟩
    rcases CQ.mp hz with rfl | hz
    ·exact h1
    ·exact ji h1 (i1 z hz)
  obtain ⟨k1,k2⟩:=key r x h
  exact .cons k1 k2
theorem kz:∀ {as bs:List Str},as.Pairwise leS→bs.Pairwise leS→as.Nodup→bs.Nodup→(∀ x,x∈as↔x∈bs)→as=bs
 | [],[],_,_,_,_,_=>rfl
 | [],b :: bs,_,_,_,_,h=>by have:=(h b).mpr (CP ..);cases this
 | a :: as,[],_,_,_,_,h=>by have:=(h a).mp (CP ..);cases this
 | a :: as,b :: bs,pa,pb,na,nb,h=>by
  cases pa with
  | cons pa1 pa2 =>
   cases pb with
   | cons pb1 pb2 =>
    have e:a=b:=by
     rcases CQ.mp ((h a).mp (CP ..)) with e | ha
     ·exact e
     ·rcases CQ.mp ((h b).mpr (CP ..)) with e | hb
      ·exact e.symm
      ·exact Bo (pa1 b hb) (pb1 a ha)
    subst e
    obtain ⟨n1,n2⟩:=List.nodup_cons.mp na
    obtain ⟨n3,n4⟩:=List.nodup_cons.mp nb
    rw [kz pa2 pb2 n2 n4 fun x=>⟨fun hx=>?_,fun hx=>?_⟩]
    ·rcases CQ.mp ((h x).mp (CL _ hx)) with e | hx'
     ·exact absurd (e ▸ hx) n1
     ·exact hx'
    ·rcases CQ.mp ((h x).mpr (CL _ hx)) with e | hx'
     ·exact absurd (e ▸ hx) n3
     ·exact hx'
end DL
namespace DL
open PySem PySem.Spec PyProof.Rows L2
def ItA (k:Bool) (h:Heap) (it a:Addr) (i:Nat):Prop:=match k with | true=>h.IsListIter it a i | false=>h.IsTupleIter it a i
def SqA (k:Bool) (h:Heap) (a:Addr) (xs:Array Value):Prop:=match k with | true=>h.IsList a xs | false=>h.IsTuple a xs
theorem ItA.keep {k:Bool} {h h':Heap} {it a:Addr} {i:Nat} (x:ItA k h it a i) (f:∀ o,h.get? it=some o→h'.get? it=some o):ItA k h' it a i:=by
 cases k
 ·exact Heap.IsTupleIter.at x f
 ·exact Heap.IsListIter.at x f
theorem SqA.keep {k:Bool} {h h':Heap} {a:Addr} {xs:Array Value} (x:SqA k h a xs) (f:∀ o,h.get? a=some o→h'.get? a=some o):SqA k h' a xs:=by
 cases k
 ·exact Heap.IsTuple.at x f
 ·exact Heap.IsList.at x f
theorem ItA.obj {k:Bool} {h:Heap} {it a:Addr} {i:Nat} (x:ItA k h it a i):∃ o,h.get? it=some o∧o.cls=.type (if k then "list_iterator" else "tuple_iterator")∧o.data=.fields #[.ref a,.int i 0]:=by
 cases k
 ·exact x
 ·exact x
theorem SqA.there {k:Bool} {h:Heap} {a:Addr} {xs:Array Value} (x:SqA k h a xs):∃ o,h.get? a=some o∧∃ n,o.data=.seq xs n:=by
 cases k
 ·obtain ⟨o,e,_,d⟩:=x;exact⟨o,e,d⟩
 ·obtain ⟨o,e,_,d⟩:=x;exact⟨o,e,d⟩
section
variable {prog:Program} {w:World} {A:Around} {E:Value→Shared→Prop} {s:Shared}
theorem Cw {it t:Addr} {i:Nat} {xs:Array Value} {x:Value} {Q:Value→Shared→Prop} (a1:s.heap.IsTupleIter it t i) (a2:s.heap.IsTuple t xs) (a3:xs[i]?=some x)
  (q:∀ h',h'.IsTupleIter it t (i + 1)→Heap.SameBut it s.heap h'→Q x { s with heap:=h' }):wpAny (model prog w) A (Builtin.SmallTypes.nextOf (.ref it)) Q E s:=by
 obtain ⟨u,e1,e2,e3⟩:=id a1
 obtain ⟨ut,f1,_,nn,f2⟩:=a2
 unfold Builtin.SmallTypes.nextOf
 refine wpAny_bind (wpAny_callSpecial?_slot (name:=Str.ofString "__next__") a1.typeIs F.slot_tuple_iterator_next (wpAny_call_entry F.slot_tuple_iterator_next a1.typeIs F.entry_tuple_iterator_next ?_ (F.args_tuple_iterator_next_1 _)))
 refine wpAny_bind (m:=field (.ref it) 0) (wpAny_field e1 e3 (x:=.ref t) rfl ?_)
 rw [if_neg (c:=(Value.ref t == Value.none)=true) Bool.false_ne_true]
 refine wpAny_bind (m:=field (.ref it) 1) (wpAny_field e1 e3 (x:=.int i 0) rfl ?_)
 refine wpAny_bind (m:=seqItems? (.ref t)) (wpAny_seqItems f1 f2 ?_)
 simp only [Int.toNat_natCast,a3]
 refine wpAny_bind (wpAny_setField e1 e3 (by simp) (wpAny_pure ⟨x,rfl,wpAny_pure (q _ ?_ (Heap.SameBut.update ..))⟩))
 refine⟨_,Heap.get?_update_self _ e1 (Obj.isFreed_of_fields (Obj.data_mapFields e3 _)),(Obj.cls_mapFields ..).trans e2,?_⟩
 rw [Obj.data_mapFields e3];simp [rawInt]
theorem r6 {it t:Addr} {i:Nat} {xs:Array Value} {Q:Value→Shared→Prop} (a0:A.handled=none) (a1:s.heap.IsTupleIter it t i) (a2:s.heap.IsTuple t xs) (a3:xs[i]?=none)
  (q:∀ h' e,Heap.ExtBut it s.heap h'→(∃ o,h'.get? e=some o∧o.cls=.type "StopIteration")→E (.ref e) { s with heap:=h' }):wpAny (model prog w) A (Builtin.SmallTypes.nextOf (.ref it)) Q E s:=by
 obtain ⟨u,e1,e2,e3⟩:=id a1
 obtain ⟨ut,f1,_,nn,f2⟩:=a2
 unfold Builtin.SmallTypes.nextOf
 refine wpAny_bind (wpAny_callSpecial?_slot (name:=Str.ofString "__next__") a1.typeIs F.slot_tuple_iterator_next (wpAny_call_entry F.slot_tuple_iterator_next a1.typeIs F.entry_tuple_iterator_next ?_ (F.args_tuple_iterator_next_1 _)))
 refine wpAny_bind (m:=field (.ref it) 0) (wpAny_field e1 e3 (x:=.ref t) rfl ?_)
 rw [if_neg (c:=(Value.ref t == Value.none)=true) Bool.false_ne_true]
 refine wpAny_bind (m:=field (.ref it) 1) (wpAny_field e1 e3 (x:=.int i 0) rfl ?_)
 refine wpAny_bind (m:=seqItems? (.ref t)) (wpAny_seqItems f1 f2 ?_)
 simp only [Int.toNat_natCast,a3]
 refine wpAny_bind (wpAny_rule (wpAny_bind (wpAny_setField e1 e3 (by simp) ?_)))
 refine wpAny_bind (m:=newExc (.type "StopIteration") []) ?_
 simp only [newExc,newTuple]
 refine wpAny_bind (wpAny_newObj_type ?_ (by size_fits))
 refine wpAny_bind (m:=firstArgMember _ _) (wpAny_of_eq (a:=Value.none) (by first | rfl | (simp only [firstArgMember];rfl)) ?_)
 refine wpAny_newObj_type ?_ (by size_fits)
 simp only [raiseNew]
 refine wpAny_bind (wpAny_handled ?_)
 first | rw [show A.in1.handled=none from a0] | rw [a0]
 exact wpAny_bind (wpAny_pure (wpAny_throw (q _ _ (((Heap.SameBut.update ..).extBut.push _).push _) ⟨_,Da _ rfl,rfl⟩)))
theorem zq {k:Bool} {it a:Addr} {i:Nat} {xs:Array Value} {x:Value} {Q:Value→Shared→Prop} (a1:ItA k s.heap it a i) (a2:SqA k s.heap a xs) (a3:xs[i]?=some x)
  (q:∀ h',ItA k h' it a (i + 1)→Heap.SameBut it s.heap h'→Q x { s with heap:=h' }):wpAny (model prog w) A (Builtin.SmallTypes.nextOf (.ref it)) Q E s:=by
 cases k
 ·exact Cw a1 a2 a3 q
 ·exact wpAny_nextOf_list_item a1 a2 a3 q
theorem lu {k:Bool} {it a:Addr} {i:Nat} {xs:Array Value} {Q:Value→Shared→Prop} (a0:A.handled=none) (a1:ItA k s.heap it a i) (a2:SqA k s.heap a xs) (a3:xs[i]?=none)
  (q:∀ h' e,Heap.ExtBut it s.heap h'→(∃ o,h'.get? e=some o∧o.cls=.type "StopIteration")→E (.ref e) { s with heap:=h' }):wpAny (model prog w) A (Builtin.SmallTypes.nextOf (.ref it)) Q E s:=by
 cases k
 ·exact r6 a0 a1 a2 a3 q
 ·exact wpAny_nextOf_list_end a0 a1 a2 a3 q
theorem wj {k:Bool} {a:Addr} {xs:Array Value} {Q:Value→Shared→Prop} (a1:SqA k s.heap a xs)
  (q:Q (.ref s.heap.objs.size) { s with heap:=s.heap.push { cls:=.type (if k then "list_iterator" else "tuple_iterator"),data:=.fields #[.ref a,.int 0 0] } }):wpAny (model prog w) A (pyIter (.ref a)) Q E s:=by
 cases k
 ·exact wpAny_pyIter_tuple a1 q
 ·exact wpAny_pyIter_list a1 q
structure ZAp (z p o i j a b:Addr):Prop where
 zp:p≠z
 zo:o≠z
 zi:i≠z
 zj:j≠z
 po:p≠o
 pi:p≠i
 pj:p≠j
 oi:o≠i
 oj:o≠j
 ij:i≠j
 az:a≠z
 ao:a≠o
 ai:a≠i
 aj:a≠j
 bz:b≠z
 bo:b≠o
 bi:b≠i
 bj:b≠j
structure ZAt (k l:Bool) (h:Heap) (z p o i j a b:Addr) (m:Nat) (xs ys:Array Value):Prop where
 hz:IsZip h z p o .none
 hp:IsPair h p (.ref i) (.ref j)
 ho:∃ u v,IsPair h o u v
 hi:ItA k h i a m
 hj:ItA l h j b m
 ha:SqA k h a xs
 hb:SqA l h b ys
theorem Cp {k l:Bool} {z p o i j a b:Addr} {m:Nat} {xs ys:Array Value} {x y:Value} {elts:List Expr} {x1} {pos:Pos} {Q:Unit→Shared→Prop} (D:ZAp z p o i j a b) (Z:ZAt k l s.heap z p o i j a b m xs ys) (hx:xs[m]?=some x) (hy:ys[m]?=some y)
  (q:∀ h',ZAt k l h' z p o i j a b (m + 1) xs ys→IsPair h' s.heap.objs.size x y→h'.objs.size=s.heap.objs.size + 1→(∀ c u,c≠z→c≠o→c≠i→c≠j→s.heap.get? c=some u→h'.get? c=some u)→Q () { s with heap:=h' }) :
  wpAny (model prog w) A (pyNext (.ref z)) (fun r s1=>∃ u,r=some u∧u=.ref s.heap.objs.size∧wpAny (model prog w) A (letOwnedTupleGo (.Tuple elts x1 pos) (.ref z) u) Q E s1) E s:=by
 obtain ⟨hz,hp,⟨u,v,ho⟩,hi,hj,ha,hb⟩:=Z
 have hT:s.TypeIs (.ref z) "zip":=⟨_,hz,rfl⟩
 unfold pyNext
 refine wpAny_bind (wpAny_attempt (wpAny_callSpecial?_slot (name:=Str.ofString "__next__") hT F.slot_zip_next (wpAny_call_entry F.slot_zip_next hT F.entry_zip_next ?_ (F.args_zip_next_1 _))))
 refine wpAny_bind (m:=field (.ref z) 2) (wpAny_field hz rfl (x:=.bool false) rfl ?_)
 refine wpAny_bind (m:=field (.ref z) 3) (wpAny_field hz rfl (x:=.ref p) rfl ?_)
 refine wpAny_bind (wpAny_seqItems hp rfl ?_)
 refine wpAny_bind (m:=Builtin.SmallTypes.ownedTupleIsFree (.ref z)) ?_
 unfold Builtin.SmallTypes.ownedTupleIsFree
 refine wpAny_bind (wpAny_field hz rfl (x:=.none) rfl (wpAny_pure ?_))
 simp only [if_true]
 refine wpAny_bind (wpAny_rule (wpAny_bind (wpAny_field hz rfl (x:=.ref o) rfl (wpAny_bind (wpAny_setField_rec hz (by simp) fun g1 z1 s1=>?_)))))
 replace z1:IsZip g1 z p o .ellipsis:=z1
 refine wpAny_bind ?_
 simp only [List.zipIdx_cons,List.zipIdx_nil,List.forIn_cons,List.forIn_nil]
 refine wpAny_bind (wpAny_bind (wpAny_onRaise ?_))
 have k1:∀ c u,c≠z→s.heap.get? c=some u→g1.get? c=some u:=fun c u n e=>s1.extBut _ _ n e
 refine wpAny_bind (m:=Builtin.SmallTypes.nextOf (.ref i)) (zq (hi.keep fun u e=>k1 _ u D.zi e) (ha.keep fun u e=>k1 _ u D.az e) hx fun g2 i2 s2=>wpAny_pure ?_)
 have k2:∀ c u,c≠i→g1.get? c=some u→g2.get? c=some u:=fun c u n e=>s2.extBut _ _ n e
 have o2:IsPair g2 o u v:=k2 _ _ D.oi (k1 _ _ D.zo ho)
 refine wpAny_bind (wpAny_seqItems o2 rfl (wpAny_bind (wpAny_updateSeq_pair o2 fun g3 o3 s3=>wpAny_bind (wpAny_letGo (wpAny_pure ?_)))))
 replace o3:IsPair g3 o x v:=o3
 have k3:∀ c u,c≠o→g2.get? c=some u→g3.get? c=some u:=fun c u n e=>s3.extBut _ _ n e
 refine wpAny_bind (wpAny_bind (wpAny_onRaise ?_))
 refine wpAny_bind (m:=Builtin.SmallTypes.nextOf (.ref j)) (zq (hj.keep fun u e=>k3 _ u D.oj.symm (k2 _ u D.ij.symm (k1 _ u D.zj e))) (hb.keep fun u e=>k3 _ u D.bo (k2 _ u D.bi (k1 _ u D.bz e))) hy fun g4 j4 s4=>wpAny_pure ?_)
 have k4:∀ c u,c≠j→g3.get? c=some u→g4.get? c=some u:=fun c u n e=>s4.extBut _ _ n e
 have o4:IsPair g4 o x v:=k4 _ _ D.oj o3
 refine wpAny_bind (wpAny_seqItems o4 rfl (wpAny_bind (wpAny_updateSeq_pair o4 fun g5 o5 s5=>wpAny_bind (wpAny_letGo (wpAny_pure (wpAny_pure ?_))))))
 replace o5:IsPair g5 o x y:=o5
 have k5:∀ c u,c≠o→g4.get? c=some u→g5.get? c=some u:=fun c u n e=>s5.extBut _ _ n e
 refine wpAny_bind (wpAny_seqItems o5 rfl (wpAny_bind (wpAny_newTuple ?_)))
 have hsz:g5.objs.size=s.heap.objs.size:=by rw [s5.1,s4.1,s3.1,s2.1,s1.1]
 have z5:IsZip g5 z p o .ellipsis:=k5 _ _ D.zo.symm (k4 _ _ D.zj.symm (k3 _ _ D.zo.symm (k2 _ _ D.zi.symm z1)))
 have kk:∀ c u,c≠z→c≠o→c≠i→c≠j→s.heap.get? c=some u→g5.get? c=some u:=fun c u n1 n2 n3 n4 e=>k5 _ _ n2 (k4 _ _ n4 (k3 _ _ n2 (k2 _ _ n3 (k1 _ _ n1 e))))
 have i5:ItA k g5 i a (m + 1):=i2.keep fun u e=>k5 _ u D.oi.symm (k4 _ u D.ij (k3 _ u D.oi.symm e))
 have j5:ItA l g5 j b (m + 1):=j4.keep fun u e=>k5 _ u D.oj.symm e
 have lz:=Heap.lt_size z5
 refine wpAny_bind (m:=Builtin.SmallTypes.ownedTupleHandOut (.ref z) (.ref g5.objs.size)) ?_
 unfold Builtin.SmallTypes.ownedTupleHandOut
 have z6:IsZip (g5.push { cls:=.type "tuple",data:=.seq #[x,y] }) z p o .ellipsis:=CO _ z5
 refine wpAny_bind (wpAny_setField_rec z6 (by simp) fun g7 z7 s7=>?_)
 replace z7:IsZip g7 z p o (rawInt g5.objs.size):=z7
 refine wpAny_setField_rec z7 (by simp) fun g8 z8 s8=>?_
 replace z8:IsZip g8 z p o (rawInt g5.objs.size):=z8
 have k8:∀ c u,c≠z→g5.get? c=some u→g8.get? c=some u:=fun c u n e=>s8.extBut _ _ n (s7.extBut _ _ n (CO _ e))
 have t8:IsPair g8 g5.objs.size x y:=s8.extBut _ _ (Nat.ne_of_gt lz) (s7.extBut _ _ (Nat.ne_of_gt lz) (Da _ rfl))
 have n8:g8.objs.size=g5.objs.size + 1:=by rw [s8.1,s7.1,Heap.size_push]
 rw [hsz] at z8 t8 n8
 refine wpAny_pure ⟨_,rfl,wpAny_pure ⟨_,rfl,congrArg Value.ref hsz,?_⟩⟩
 show wpAny (model prog w) A (letOwnedTupleGo (.Tuple elts x1 pos) (.ref z) (.ref g5.objs.size)) Q E _
 rw [hsz]
 refine wpAny_letOwnedTupleGo_zip z8 fun g9 z9 s9=>?_
 have k9:∀ c u,c≠z→g8.get? c=some u→g9.get? c=some u:=fun c u n e=>s9.extBut _ _ n e
 have up:∀ c u,c≠z→g5.get? c=some u→g9.get? c=some u:=fun c u n e=>k9 _ _ n (k8 _ _ n e)
 refine q g9 ⟨z9,up _ _ D.zp (kk _ _ D.zp D.po D.pi D.pj hp),⟨x,y,up _ _ D.zo o5⟩,i5.keep fun u e=>up _ u D.zi e,j5.keep fun u e=>up _ u D.zj e,ha.keep fun u e=>up _ u D.az (kk _ _ D.az D.ao D.ai D.aj e),hb.keep fun u e=>up _ u D.bz (kk _ _ D.bz D.bo D.bi D.bj e)⟩ ?_ ?_ fun c u n1 n2 n3 n4 e=>up c u n1 (kk c u n1 n2 n3 n4 e)
 ·exact k9 _ _ (by rw [← hsz];exact Nat.ne_of_gt lz) t8
 ·rw [s9.1,n8]
theorem Cz {k l:Bool} {z p o i j a b:Addr} {m:Nat} {xs ys:Array Value} {Q:Option Value→Shared→Prop} (a0:A.handled=none) (D:ZAp z p o i j a b) (Z:ZAt k l s.heap z p o i j a b m xs ys) (hend:xs[m]?=none∨ys[m]?=none)
  (q:∀ h',(∀ c u,c≠z→c≠o→c≠i→c≠j→s.heap.get? c=some u→h'.get? c=some u)→Q none { s with heap:=h' }):wpAny (model prog w) A (pyNext (.ref z)) Q E s:=by
 obtain ⟨hz,hp,⟨u,v,ho⟩,hi,hj,ha,hb⟩:=Z
 have hT:s.TypeIs (.ref z) "zip":=⟨_,hz,rfl⟩
 unfold pyNext
 have fin:∀ (g:Heap) (e:Addr),(∀ c u,c≠z→c≠o→c≠i→c≠j→s.heap.get? c=some u→g.get? c=some u)→(∃ o,g.get? e=some o∧o.cls=.type "StopIteration") →
   wpAny (model prog w) A (do if←isInstance (.ref e) (.type "StopIteration") then pure (none:Option Value) else throw (.ref e)) Q E { s with heap:=g }:=fun g e kk ⟨oe,h1,h2⟩ =>
  wpAny_bind (wpAny_isInstance (T:="StopIteration") (b:=true) ⟨oe,h1,h2⟩ isSubtype_stop (wpAny_pure (q _ kk)))
 refine wpAny_bind (wpAny_attempt (wpAny_callSpecial?_slot (name:=Str.ofString "__next__") hT F.slot_zip_next (wpAny_call_entry F.slot_zip_next hT F.entry_zip_next ?_ (F.args_zip_next_1 _))))
 refine wpAny_bind (m:=field (.ref z) 2) (wpAny_field hz rfl (x:=.bool false) rfl ?_)
 refine wpAny_bind (m:=field (.ref z) 3) (wpAny_field hz rfl (x:=.ref p) rfl ?_)
 refine wpAny_bind (wpAny_seqItems hp rfl ?_)
 refine wpAny_bind (m:=Builtin.SmallTypes.ownedTupleIsFree (.ref z)) ?_
 unfold Builtin.SmallTypes.ownedTupleIsFree
 refine wpAny_bind (wpAny_field hz rfl (x:=.none) rfl (wpAny_pure ?_))
 simp only [if_true]
 refine wpAny_bind (wpAny_rule (wpAny_bind (wpAny_field hz rfl (x:=.ref o) rfl (wpAny_bind (wpAny_setField_rec hz (by simp) fun g1 z1 s1=>?_)))))
 replace z1:IsZip g1 z p o .ellipsis:=z1
 refine wpAny_bind ?_
 simp only [List.zipIdx_cons,List.zipIdx_nil,List.forIn_cons,List.forIn_nil]
 refine wpAny_bind (wpAny_bind (wpAny_onRaise ?_))
 have k1:∀ c u,c≠z→s.heap.get? c=some u→g1.get? c=some u:=fun c u n e=>s1.extBut _ _ n e
 have i1:=hi.keep fun u e=>k1 _ u D.zi e
 have a1:=ha.keep fun u e=>k1 _ u D.az e
 cases hx:xs[m]? with
 | none =>
  refine wpAny_bind (m:=Builtin.SmallTypes.nextOf (.ref i)) (lu a0 i1 a1 hx fun g2 e s2 he=>?_)
  obtain ⟨oe,hoe,hce⟩:=he
  have z2:IsZip g2 z p o .ellipsis:=s2 _ _ D.zi.symm z1
  have hez:e≠z:=fun x=>by subst x;rw [z2] at hoe;cases hoe;simp at hce
  exact wpAny_setField_rec z2 (by simp) fun g3 _ s3=>fin g3 e (fun c u n1 _ n3 _ x=>s3.extBut _ _ n1 (s2 _ _ n3 (k1 _ _ n1 x))) ⟨oe,s3.extBut _ _ hez hoe,hce⟩
 | some x =>
  have hy:ys[m]?=none:=by rcases hend with h | h;rw [hx] at h;cases h;exact h
  refine wpAny_bind (m:=Builtin.SmallTypes.nextOf (.ref i)) (zq i1 a1 hx fun g2 i2 s2=>wpAny_pure ?_)
  have k2:∀ c u,c≠i→g1.get? c=some u→g2.get? c=some u:=fun c u n e=>s2.extBut _ _ n e
  have o2:IsPair g2 o u v:=k2 _ _ D.oi (k1 _ _ D.zo ho)
  refine wpAny_bind (wpAny_seqItems o2 rfl (wpAny_bind (wpAny_updateSeq_pair o2 fun g3 o3 s3=>wpAny_bind (wpAny_letGo (wpAny_pure ?_)))))
  have k3:∀ c u,c≠o→g2.get? c=some u→g3.get? c=some u:=fun c u n e=>s3.extBut _ _ n e
  refine wpAny_bind (wpAny_bind (wpAny_onRaise ?_))
  refine wpAny_bind (m:=Builtin.SmallTypes.nextOf (.ref j)) (lu a0 (hj.keep fun u e=>k3 _ u D.oj.symm (k2 _ u D.ij.symm (k1 _ u D.zj e))) (hb.keep fun u e=>k3 _ u D.bo (k2 _ u D.bi (k1 _ u D.bz e))) hy fun g4 e s4 he=>?_)
  obtain ⟨oe,hoe,hce⟩:=he
  have z4:IsZip g4 z p o .ellipsis:=s4 _ _ D.zj.symm (k3 _ _ D.zo.symm (k2 _ _ D.zi.symm z1))
  have hez:e≠z:=fun x=>by subst x;rw [z4] at hoe;cases hoe;simp at hce
  exact wpAny_setField_rec z4 (by simp) fun g5 _ s5=>fin g5 e (fun c u n1 n2 n3 n4 x=>s5.extBut _ _ n1 (s4 _ _ n4 (k3 _ _ n2 (k2 _ _ n3 (k1 _ _ n1 x))))) ⟨oe,s5.extBut _ _ hez hoe,hce⟩
abbrev zh (k l:Bool) (h:Heap) (a b:Addr):Heap:=((((h.push { cls:=.type (if k then "list_iterator" else "tuple_iterator"),data:=.fields #[.ref a,.int 0 0] }).push { cls:=.type (if l then "list_iterator" else "tuple_iterator"),data:=.fields #[.ref b,.int 0 0] }).push
 { cls:=.type "tuple",data:=.seq #[.ref h.objs.size,.ref (h.objs.size + 1)] }).push { cls:=.type "tuple",data:=.seq #[.none,.none] }).push { cls:=.type "zip",data:=.fields #[.none,.bool false,.bool false,.ref (h.objs.size + 2),.ref (h.objs.size + 3)] }
theorem BC (k l:Bool) (a b:Addr) (xs ys:Array Value):Meets (Builtin.«zip.__new__» ⟨[.type "zip",.ref a,.ref b],[]⟩) (fun _ R s=>SqA k s.heap a xs∧SqA l s.heap b ys∧R (.ok (.ret (.ref (s.heap.objs.size + 4)))) { s with heap:=zh k l s.heap a b }) :=
 .of_wp fun prog w A R s h=>by
  obtain ⟨hp,g,d,tk,os⟩:=s;obtain ⟨a1,a2,h⟩:=h
  have hsub:=sub_zip
  have b1:SqA k (Shared.heap ⟨hp,g,d,tk,os⟩) a xs:=a1
  have b2:SqA l (Shared.heap ⟨hp.push { cls:=.type (if k then "list_iterator" else "tuple_iterator"),data:=.fields #[.ref a,.int 0 0] },g,d,tk,os⟩) b ys:=SqA.keep a2 fun o e=>CO _ e
  wp_walk using wj b1,wj b2
  refine⟨_,rfl,?_⟩
  simp only [Heap.size_push]
  exact h
theorem Ch {k l:Bool} {a b:Addr} {xs ys:Array Value} {Q:Value→Shared→Prop} (a1:SqA k s.heap a xs) (a2:SqA l s.heap b ys)
  (h:ZAt k l (zh k l s.heap a b) (s.heap.objs.size + 4) (s.heap.objs.size + 2) (s.heap.objs.size + 3) s.heap.objs.size (s.heap.objs.size + 1) a b 0 xs ys→(∀ c o,s.heap.get? c=some o→(zh k l s.heap a b).get? c=some o)→Q (.ref (s.heap.objs.size + 4)) { s with heap:=zh k l s.heap a b }) :
  wpAny (model prog w) A (call (.type "zip") [.ref a,.ref b]) Q E s:=by
 refine callType_new F.called_zip (by decide) (F.typeCall_zip_2 _ _) (F.newCall_zip_2 _ _) (fun obj=>F.args_object_init_3 obj _ _) F.entry_zip_new (BC k l a b xs ys) ⟨a1,a2,?_⟩
 have up:∀ c o,s.heap.get? c=some o→(zh k l s.heap a b).get? c=some o:=fun c o e=>CO _ (CO _ (CO _ (CO _ (CO _ e))))
 have sz:∀ (h:Heap) (o:Obj) (n:Nat),h.objs.size=n→o.isFreed=false→(h.push o).get? n=some o:=fun h o n e f=>by rw [← e];exact Da _ f
 have e4:(zh k l s.heap a b).get? (s.heap.objs.size + 4)=some _:=sz _ _ _ (by simp only [Heap.size_push]) rfl
 have e3:(zh k l s.heap a b).get? (s.heap.objs.size + 3)=some _:=CO _ (sz _ _ _ (by simp only [Heap.size_push]) rfl)
 have e2:(zh k l s.heap a b).get? (s.heap.objs.size + 2)=some _:=CO _ (CO _ (sz _ _ _ (by simp only [Heap.size_push]) rfl))
 have e1:(zh k l s.heap a b).get? (s.heap.objs.size + 1)=some _:=CO _ (CO _ (CO _ (sz _ _ _ (by simp only [Heap.size_push]) rfl)))
 have e0:(zh k l s.heap a b).get? s.heap.objs.size=some _:=CO _ (CO _ (CO _ (CO _ (Da _ rfl))))
 have i0:ItA k (zh k l s.heap a b) s.heap.objs.size a 0:=by
  cases k
  ·exact⟨_,e0,rfl,rfl⟩
  ·exact⟨_,e0,rfl,rfl⟩
 have i1:ItA l (zh k l s.heap a b) (s.heap.objs.size + 1) b 0:=by
  cases l
  ·exact⟨_,e1,rfl,rfl⟩
  ·exact⟨_,e1,rfl,rfl⟩
 exact⟨⟨_,e4,rfl⟩,h ⟨e4,e2,⟨_,_,e3⟩,i0,i1,a1.keep fun o e=>up _ o e,a2.keep fun o e=>up _ o e⟩ up⟩
theorem ZAp.new {n a b:Nat} (h1:a < n) (h2:b < n):ZAp (n + 4) (n + 2) (n + 3) n (n + 1) a b:=by
 constructor<;>(intro e;have e:(_:Nat)=_:=e;omega)
end
theorem kK {X:Cx} {pins:List (Addr×Obj)} {σ:L2.St} {H:Hp} {s:Shared} {h':Heap} {t':Nat} {fp:List Addr} (I:Inv X pins σ H s) (k:∀ b o,b∉fp→s.heap.get? b=some o→h'.get? b=some o) (hf:∀ b∈fp,FpOk X pins H b) :
  Inv X pins σ H { s with heap:=h',toks:=t' }:=by
 have nit:∀ b u,H b=some u→b∉fp:=fun b u e z=>by rw [(hf b z).1] at e;cases e
 refine I.step (g':=s.gens) (d':=s.drawn) (ch:=fp) (fun b hb=>?_) (fun b o _ _ hc e _=>k b o hc e) (fun b o _ _ hc e _=>⟨o.slots,k b o hc e⟩) (fun _ _ _ _ n=>n)
  (fun b o hc e=>⟨o,k b o hc e⟩) (fun _ _ e=>e) (fun _ _ _ e=>e) (fun b ps e=>⟨#[],by rw [e];simp⟩) (fun m hm=>?_) (fun b u e=>?_) I.bare
 ·obtain ⟨f0,f1,f2,f3,f4,f5⟩:=hf b hb
  exact⟨f3,f1,f4,f5⟩
 ·obtain ⟨o,es,ep,ho,r⟩:=hm
  exact⟨o,es,ep,k _ o (fun z=>(hf _ z).2.1 rfl) ho,r⟩
 ·refine (I.hok b u e).stay (fun c v hc q=>k c v ?_ q) (fun _ q=>q) fun _ _ q=>q
  rcases hc with z | z
  ·rw [z];exact nit b u e
  ·exact nit c _ z
def SqV (k:Bool) (K:PySem.W.Frag) (H:Hp) (a:Addr) (xs:List V):Prop:=match k with | true=>SqL K H a xs | false=>SqT K H a xs
theorem SqV.at {k:Bool} {X:Cx} {pins:List (Addr×Obj)} {σ:L2.St} {H:Hp} {s:Shared} {a:Addr} {xs:List V} (I:Inv X pins σ H s) (h:SqV k X.K H a xs):∃ its:List Value,Vals xs its∧SqA k s.heap a its.toArray:=by
 cases k
 ·obtain ⟨its,r,p,_⟩:=I.tuple h
  exact⟨its,r,p⟩
 ·obtain ⟨its,r,p,_⟩:=I.list h
  exact⟨its,r,p.isList⟩
theorem SqV.inj {k:Bool} {X:Cx} {pins:List (Addr×Obj)} {σ:L2.St} {H:Hp} {s:Shared} {a:Addr} {xs ys:List V} (I:Inv X pins σ H s) (h:SqV k X.K H a xs) (h':SqV k X.K H a ys):xs=ys:=by
 cases k
 ·exact I.tuple_inj h h'
 ·exact I.list_inj h h'
def Itz (K:PySem.W.Frag) (k l:Bool) (a b:Addr):It :=
  ⟨fun i H=>∃ xs ys x y,SqV k K H a xs∧SqV l K H b ys∧xs[i]?=some x∧ys[i]?=some y,
   fun i H v H'=>∃ T x y,H T=none∧H'=upd H T (.tup [x,y])∧v=.ref T∧(∀ xs,SqV k K H a xs→xs[i]?=some x)∧∀ ys,SqV l K H b ys→ys[i]?=some y,
   fun i H=>∃ xs ys,SqV k K H a xs∧SqV l K H b ys∧(xs.length≤i∨ys.length≤i)⟩
structure ZI (k l:Bool) (h:Heap) (z p o i j a b:Addr) (m:Nat):Prop where
 hz:IsZip h z p o .none
 hp:IsPair h p (.ref i) (.ref j)
 ho:∃ u v,IsPair h o u v
 hi:ItA k h i a m
 hj:ItA l h j b m
theorem ZAt.zi {k l:Bool} {h:Heap} {z p o i j a b:Addr} {m:Nat} {xs ys:Array Value} (Z:ZAt k l h z p o i j a b m xs ys):ZI k l h z p o i j a b m:=⟨Z.hz,Z.hp,Z.ho,Z.hi,Z.hj⟩
theorem uH {P:Program} {w:World} {K:PySem.W.Frag} {elts:List Expr} {x1} {pos:Pos} {k l:Bool} {z p o i j a b:Addr} (D:ZAp z p o i j a b) :
  Turn P w K (.Tuple elts x1 pos) (Itz K k l a b) [z,p,o,i,j] z (fun m h=>ZI k l h z p o i j a b m) where
 mem:=by simp
 obj:=fun m h Z c hc=>by
  simp only [CQ,List.not_mem_nil,or_false] at hc
  rcases hc with rfl | rfl | rfl | rfl | rfl
  ·exact⟨_,Z.hz,fun v=>nofun⟩
  ·exact⟨_,Z.hp,fun v=>nofun⟩
  ·obtain ⟨u,v,e⟩:=Z.ho
   exact⟨_,e,fun v=>nofun⟩
  ·obtain ⟨q,e,_,d⟩:=Z.hi.obj
   exact⟨q,e,fun v=>by rw [d];nofun⟩
  ·obtain ⟨q,e,_,d⟩:=Z.hj.obj
   exact⟨q,e,fun v=>by rw [d];nofun⟩
 keep:=fun m h h' Z kk=>⟨kk _ (by simp) _ Z.hz,kk _ (by simp) _ Z.hp,(by obtain ⟨u,v,e⟩:=Z.ho;exact⟨u,v,kk _ (by simp) _ e⟩),Z.hi.keep fun q e=>kk _ (by simp) q e,Z.hj.keep fun q e=>kk _ (by simp) q e⟩
 item:=by
  intro X hP hw hK hc m pins s σ H E I hf Z hg
  subst hP hw hK
  obtain ⟨xs,ys,x,y,h1,h2,hx,hy⟩:=hg
  obtain ⟨is,r1,p1⟩:=SqV.at I h1
  obtain ⟨js,r2,p2⟩:=SqV.at I h2
  obtain ⟨u,hu,ru⟩:=r1.get hx
  obtain ⟨v,hv,rv⟩:=r2.get hy
  refine thn (Cp (E:=E) (Q:=fun _ s2=>∃ x H',Inv X pins σ H' s2∧RelV x (.ref s.heap.objs.size)∧(Itz X.K k l a b).yld m H x H'∧ZI k l s2.heap z p o i j a b (m + 1)∧∀ b∈[z,p,o,i,j],H' b=none) (elts:=elts) (x1:=x1) (pos:=pos) D ⟨Z.hz,Z.hp,Z.ho,Z.hi,Z.hj,p1,p2⟩ (x:=u) (y:=v) (by simpa using hu) (by simpa using hv) fun h' Z' t' n' kk=>?_) fun r s1 h_0=>by obtain ⟨u',e1,e2,q⟩:=h_0;exact⟨u',e1,by subst e2;exact q⟩
  have hfr:H s.heap.objs.size=none:=I.hok.fresh (Nat.le_refl _)
  have I1:Inv X pins σ (upd H s.heap.objs.size (.tup [x,y])) { s with heap:=s.heap.push { cls:=.type "tuple",data:=.seq #[u,v] } }:=I.laid (t':=s.toks) (fun b u e=>CO _ e) (Nat.le_refl _) ⟨by show 2≤sizeLine;decide,[u,v],.cons ru (.cons rv .nil),⟨_,Da _ rfl,rfl,_,rfl⟩⟩
  have lt:∀ c∈[z,p,o,i,j],c≠s.heap.objs.size:=fun c hc=>by
   have:∃ q,s.heap.get? c=some q:=by
    simp only [CQ,List.not_mem_nil,or_false] at hc
    rcases hc with rfl | rfl | rfl | rfl | rfl
    ·exact⟨_,Z.hz⟩
    ·exact⟨_,Z.hp⟩
    ·obtain ⟨u,v,e⟩:=Z.ho;exact⟨_,e⟩
    ·obtain ⟨q,e,_⟩:=Z.hi.obj;exact⟨q,e⟩
    ·obtain ⟨q,e,_⟩:=Z.hj.obj;exact⟨q,e⟩
   obtain ⟨q,e⟩:=this
   exact Nat.ne_of_lt (Heap.lt_size e)
  have fr:∀ c∈[z,p,o,i,j],upd H s.heap.objs.size (.tup [x,y]) c=none:=fun c hc=>by rw [aO (lt c hc)];exact (hf c hc).1
  have I2:Inv X pins σ (upd H s.heap.objs.size (.tup [x,y])) { s with heap:=h' }:=kK (s:={ s with heap:=s.heap.push { cls:=.type "tuple",data:=.seq #[u,v] } }) (t':=s.toks) (fp:=[z,p,o,i,j]) I1 (fun c q hc e=>?_) fun c hc=>⟨fr c hc,(hf c hc).2⟩
  ·exact⟨.ref s.heap.objs.size,_,I2,rfl,⟨_,x,y,hfr,rfl,rfl,fun zs hz=>by rw [SqV.inj I hz h1];exact hx,fun zs hz=>by rw [SqV.inj I hz h2];exact hy⟩,Z'.zi,fr⟩
  ·rcases Heap.get?_push_cases e with ⟨rfl,rfl⟩ | e
   ·exact t'
   ·exact kk c q (fun z=>hc (by simp [z])) (fun z=>hc (by simp [z])) (fun z=>hc (by simp [z])) (fun z=>hc (by simp [z])) e
 done:=by
  intro X hP hw hK hc m pins s σ H E I hf Z hg
  subst hP hw hK
  obtain ⟨xs,ys,h1,h2,hl⟩:=hg
  obtain ⟨is,r1,p1⟩:=SqV.at I h1
  obtain ⟨js,r2,p2⟩:=SqV.at I h2
  have l1:=r1.length
  have l2:=r2.length
  refine Cz (I.ok.hd hc) D ⟨Z.hz,Z.hp,Z.ho,Z.hi,Z.hj,p1,p2⟩ (hl.imp (fun h=>by simp;omega) fun h=>by simp;omega) fun h' kk=>⟨rfl,kK (t':=s.toks) (fp:=[z,p,o,i,j]) I (fun c q hc e=>?_) hf⟩
  exact kk c q (fun z=>hc (by simp [z])) (fun z=>hc (by simp [z])) (fun z=>hc (by simp [z])) (fun z=>hc (by simp [z])) e
 self:=fun _ _ _ _ _ Z h=>wpAny_pyIter_zip Z.hz h
section
variable {X:Cx}
def iZip (K:PySem.W.Frag) (k l:Bool) (ta:TA):TI:=fun σ H R=>ta σ H fun vs H1=>∃ a b,vs=[.ref a,.ref b]∧(∃ xs,SqV k K H1 a xs)∧(∃ ys,SqV l K H1 b ys)∧R (Itz K k l a b) H1
theorem AR {k l:Bool} {a b:Expr} {ta:TA} {p pos:Pos} {elts:List Expr} {x1} {pos':Pos} (hg:Gl X "zip") (hm:X.mg "zip"=none) (ha:PA X [a,b] ta) (hs:starEach [a,b] X.env=[(false,eval a X.env),(false,eval b X.env)]:=by rfl) (hs2:starEach [b] X.env=[(false,eval b X.env)]:=by rfl) :
  PI X (.Tuple elts x1 pos') (.Call (.Name "zip" p) [a,b] [] pos) (iZip X.K k l ta):=by
 intro pins s σ H R I h
 refine Call_ (jh I hg hm boot_zip (PyProof.Rows.callWith_type1 (thn (ha pos pins s σ H _ I h) fun us s1 ⟨vs,H1,I1,r1,q1⟩=>?_) (by rw [hs,hs2]) (by rw [hs2];rfl)))
 obtain ⟨c,d,e,⟨xs,hx⟩,⟨ys,hy⟩,q⟩:=q1
 subst e
 cases r1 with
 | cons r rr =>
  cases rr with
  | cons r' rr =>
   cases rr
   cases r
   cases r'
   obtain ⟨is,_,p1⟩:=SqV.at I1 hx
   obtain ⟨js,_,p2⟩:=SqV.at I1 hy
   refine Ch p1 p2 fun Z up=>wpAny_pyIter_zip Z.hz ?_
   have lt:∀ {k:Bool} {c:Addr} {zs:Array Value},SqA k s1.heap c zs→c < s1.heap.objs.size:=fun h=>let ⟨_,e,_⟩:=h.there;Heap.lt_size e
   refine⟨_,_,_,_,H1,rfl,I1.kept (t':=s1.toks) up,uH (ZAp.new (lt p1) (lt p2)),Z.zi,fun b hb=>?_,q⟩
   have hb:s1.heap.objs.size≤b:=by
    simp only [CQ,List.not_mem_nil,or_false] at hb
    rcases hb with rfl | rfl | rfl | rfl | rfl
    ·exact Nat.le_add_right ..
    ·exact Nat.le_add_right ..
    ·exact Nat.le_add_right ..
    ·exact Nat.le_refl _
    ·exact Nat.le_add_right ..
   exact I1.fpOk hb (I1.hok.fresh hb)
end
def sq (k:Bool) (xs:List D):D:=match k with | true=>.lst xs | false=>.tup xs
def zipD (xs ys:List D):List D:=List.zipWith (fun x y=>D.tup [x,y]) xs ys
def zK (k l:Bool) (t:TDA):TDC:=fun δ R=>t δ fun ds δ1=>∃ xs ys,ds=[sq k xs,sq l ys]∧R (zipD xs ys) δ1
section
variable {X:Cx} {ta:TDA}
theorem sH {k:Bool} {K:PySem.W.Frag} {M:Addr→Prop} {H:Hp} {xs:List D} {v:V} (h:Rep K M H (sq k xs) v):∃ a vs,v=.ref a∧SqV k K H a vs∧Reps K M H xs vs:=by
 cases k
 ·unfold sq Rep at h
  exact h
 ·unfold sq Rep at h
  obtain ⟨a,vs,e,_,l,r⟩:=h
  exact⟨a,vs,e,SqL.of l,r⟩
theorem jT (k l:Bool) {a b:Expr} {p pos:Pos} {elts:List Expr} {x1} {pos':Pos} (hg:Gl X "zip") (hm:X.mg "zip"=none) (ha:DA X [a,b] ta) (hs:starEach [a,b] X.env=[(false,eval a X.env),(false,eval b X.env)]:=by rfl) (hs2:starEach [b] X.env=[(false,eval b X.env)]:=by rfl) :
  CI X (.Tuple elts x1 pos') (.Call (.Name "zip" p) [a,b] [] pos) (zK k l ta) :=
 ⟨_,AR (k:=k) (l:=l) hg hm ha hs hs2,fun G δ P σ H R Q s hs kk=>⟨G,δ,P,_,s,hs,fun ds δ1 h1 vs H1 hl s1=>by
  obtain ⟨xs,ys,e,r⟩:=h1
  subst e
  match vs,hl with
  | [v,w],_ =>
   have s2:S X.K G δ1 ((sq k xs,v) :: (sq l ys,w) :: P) σ H1:=s1
   have at1:∀ A δ σ H,Sx X.K G A δ ((sq k xs,v) :: (sq l ys,w) :: P) σ H→∃ a vs,v=.ref a∧SqV k X.K H a vs∧Reps X.K (fun b=>G.M0 b∨A b) H xs vs:=fun A δ σ H x=>sH (x.pnd (sq k xs,v) (by simp))
   have at2:∀ A δ σ H,Sx X.K G A δ ((sq k xs,v) :: (sq l ys,w) :: P) σ H→∃ a vs,w=.ref a∧SqV l X.K H a vs∧Reps X.K (fun b=>G.M0 b∨A b) H ys vs:=fun A δ σ H x=>sH (x.pnd (sq l ys,w) (by simp))
   obtain ⟨A1,x1⟩:=id s2
   obtain ⟨a,vs0,rfl,l0,_⟩:=at1 _ _ _ _ x1
   obtain ⟨b,ws0,rfl,m0,_⟩:=at2 _ _ _ _ x1
   have hlen:(zipD xs ys).length=min xs.length ys.length:=by unfold zipD;rw [List.length_zipWith]
   refine⟨a,b,rfl,⟨vs0,l0⟩,⟨ws0,m0⟩,kk _ δ1 r _ _ H1 (fun q hq=>by simp [hq]) s2 (fun A δ σ i H x hi=>?_) (fun A δ σ H x=>?_) fun A δ σ i y H H2 x hi hy=>?_⟩
   ·obtain ⟨_,vs,e,l,r⟩:=at1 _ _ _ _ x
    cases e
    obtain ⟨_,ws,e,l2,r2⟩:=at2 _ _ _ _ x
    cases e
    obtain ⟨v',hv,_⟩:=Reps.get _ _ r i (xs[i]'(by omega)) (by simp)
    obtain ⟨w',hw,_⟩:=Reps.get _ _ r2 i (ys[i]'(by omega)) (by simp)
    exact⟨vs,ws,v',w',l,l2,hv,hw⟩
   ·obtain ⟨_,vs,e,l,r⟩:=at1 _ _ _ _ x
    cases e
    obtain ⟨_,ws,e,l2,r2⟩:=at2 _ _ _ _ x
    cases e
    have:=Reps.length _ _ r
    have:=Reps.length _ _ r2
    exact⟨vs,ws,l,l2,by omega⟩
   ·obtain ⟨_,vs,e,l,r⟩:=at1 _ _ _ _ x
    cases e
    obtain ⟨_,ws,e,l2,r2⟩:=at2 _ _ _ _ x
    cases e
    obtain ⟨T,x',y',hT,rfl,rfl,hx,hy⟩:=hy
    have hi1:i < xs.length:=by omega
    have hi2:i < ys.length:=by omega
    obtain ⟨v',hv,rv⟩:=Reps.get _ _ r i xs[i] (by simp [hi1])
    obtain ⟨w',hw,rw'⟩:=Reps.get _ _ r2 i ys[i] (by simp [hi2])
    have e1:=hx vs l
    have e2:=hy ws l2
    rw [hv] at e1
    rw [hw] at e2
    have e1:=Option.some.inj e1
    have e2:=Option.some.inj e2
    rw [e1] at rv
    rw [e2] at rw'
    have sm:Same H (upd H T (.tup [x',y'])):=aJ hT _
    refine⟨sm,.tup [xs[i],ys[i]],?_,?_⟩
    ·unfold zipD
     rw [List.getElem?_zipWith,Dk hi1,Dk hi2]
    ·unfold Rep
     exact⟨T,[x',y'],rfl,.inl (.inl aI),Reps.cons (Rep.kp (Kp.of_same sm) _ _ rv) (Reps.one (Rep.kp (Kp.of_same sm) _ _ rw'))⟩⟩⟩
end
def dFor (src:TDC) (g:TDG) (tb:TDS):TDS:=fun R δ=>src δ fun xs δ1=>∃ I:Nat→En→Prop,I 0 δ1 ∧
 (∀ i x δ',xs[i]?=some x→I i δ'→g x δ' fun δ2=>tb { R with nx:=I (i + 1),ct:=I (i + 1),bk:=R.nx,tp:=False } δ2)∧∀ δ',I xs.length δ'→R.nx δ'
theorem gR {X:Cx} {pos:Pos} {tg e:Expr} {src:TDC} {g:TDG} {t:TDS} {body:List Stmt} (hp:PassesOwn (model X.prog X.w) X.A X.env X.xe) (hc:X.calm=true) (hi:CI X tg e src) (hg:DG X tg g) (hb:DSs X body t) (hs:∀ x,foldedSetIterable e X.env x=pure x:=by intro _;rfl) :
  DS X (.For tg e body [] pos) (dFor src g t):=by
 obtain ⟨wi,hi,hw⟩:=hi
 refine PS.imp (pM hp hc hi hg hb hs) fun E σ H h_0=>?_
 obtain ⟨G,δ,P,R,s,h,k1,k2,k3,k4⟩:=h_0
 refine hw G δ P σ H _ _ s h fun xs δ1 ⟨I,i0,turn,fin⟩ J P1 H1 hP s1 hgo hst hyl=>?_
 refine⟨fun i m σ H=>m=xs.length - i∧i≤xs.length∧∃ δ,I i δ∧S X.K G δ P1 σ H,⟨xs.length,by simp,Nat.zero_le _,δ1,i0,s1⟩,?_⟩
 rintro i m σ H ⟨rfl,hi,δ',ii,s'⟩
 obtain ⟨A,x⟩:=id s'
 by_cases hlt:i < xs.length
 ·refine .inr ⟨hgo A _ _ i H x hlt,fun σ' H'=>∃ δ',I (i + 1) δ'∧S X.K G δ' P1 σ' H',fun σ' H' ⟨δ',p',s'⟩=>⟨xs.length - (i + 1),by omega,rfl,hlt,δ',p',s'⟩,fun y H' hy=>?_⟩
  obtain ⟨sm,d,hd,rd⟩:=hyl A _ _ i y H H' x hlt hy
  refine⟨G,δ',P1,d,_,⟨A,(x.same sm).push rd⟩,turn i d δ' hd ii,fun δ2 h2 σ2 H2 s2=>?_⟩
  refine⟨G,δ2,P1,_,s2,h2,fun δ3 h3 σ3 H3 s3=>⟨δ3,h3,s3⟩,⟨fun d δ3 h3 v3 σ3 H3 s3=>k2.1 d δ3 h3 v3 σ3 H3 (s3.sub fun p hp=>?_),k2.2⟩,fun δ3 h3 σ3 H3 s3=>k1 δ3 h3 σ3 H3 (s3.sub fun p hp=>hP p hp),fun δ3 h3 σ3 H3 s3=>⟨δ3,h3,s3⟩,fun z=>z.elim⟩
  rcases CQ.mp hp with rfl | hp
  ·simp
  ·simp [hP p hp]
 ·have e:i=xs.length:=by omega
  subst e
  exact .inl ⟨hst A _ _ H x,k1 δ' (fin δ' ii) σ H (s'.sub fun p hp=>hP p hp)⟩
end DL
namespace DL
open PySem PySem.Spec PyProof.Rows L2
section
variable {X:Cx}
def Ay (i:Nat) (tk tx:TDE):TDE:=fun δ R=>∃ a ks ds,δ[i]?=some (.own a (.dct ks ds))∧tk δ (wd fun z δ1=>tx δ1 (wd fun x δ2=>∃ ks ds y,δ2[i]?=some (.own a (.dct ks ds))∧z=.str y∧R (.d ((dAt ks ds y).getD x)) δ2))
variable {e f:Expr} {ta tb:TDE} {pos:Pos}
theorem rh (i:Nat) {y:Str} {p apos cpos:Pos} (hu:X.A.units + 64 < cLine) (he:DE X e ta) (hf:DE X f tb) (hN:X.N[i]?=some y:=by rfl) (hv:Vis X.env.scope y:=by walk_at "v3")
  (hd:(y == ("__debug__":Str))=false:=by decide) (hcd:(y == ("__classdict__":Str))=false:=by decide) (m:M2 X (.Name y p) "get" apos e f cpos:=by exact⟨rfl,rfl,rfl,rfl⟩) :
  DE X (.Call (.Attribute (.Name y p) "get" apos) [e,f] [] cpos) (Ay i ta tb) :=
 PE.imp (uI (by omega) (eA hN hv hd hcd) he hf m) fun σ H Q h_0=>by obtain ⟨G,δ,P,R,s,⟨a,ks0,ds0,hi0,h1⟩,k,_⟩:=h_0;exact⟨.ref a,s.own hi0,a,rfl,by
  obtain ⟨A,q⟩:=id s
  obtain ⟨_,aa,vs,hvs,l,rs⟩:=q.own i a _ hi0
  exact .inl ⟨_,.inl hvs⟩,up.mk s h1 fun z δ1 h2 v H1 s1=>up.mk s1 h2 fun x δ2 ⟨ks,ds,y,hi,ez,r⟩ w H2 ⟨A,q⟩=>by
   subst ez
   obtain ⟨_,aa,vs,hvs,l,rs⟩:=q.own i a _ hi
   have p2:v=.str y:=bW (q.pnd (.str y,v) (by simp))
   have g:=DGet.k (k:=Sum.inr y) hvs
   rw [gk] at g
   refine⟨_,by rw [p2];exact g,?_⟩
   cases ed:dAt ks ds y with
   | some d =>
    obtain ⟨w',hw,rw'⟩:=(Reps.dAt y ks ds vs rs).1 d ed
    rw [ed] at r
    rw [hw]
    exact k d δ2 r w' H2 ⟨A,(q.sub (P':=P) fun p hp=>by simp [hp]).push rw'⟩
   | none =>
    have hw:=(Reps.dAt y ks ds vs rs).2 ed
    rw [ed] at r
    rw [hw]
    exact k x δ2 r w H2 ⟨A,q.sub fun p hp=>by
     rcases CQ.mp hp with rfl | hp
     ·simp
     ·simp [hp]⟩⟩
end
end DL
namespace DL
open PySem PyProof.Rows
end DL
namespace DL
open PySem PySem.Spec PyProof.Rows L2
end DL
namespace Mf
open PySem L2 DL
def tmD (t:Str×Int):D:=.tup [.str t.1,.int t.2]
structure jE (names:List Str) (ts:List (Str×Int)):Prop where
 sub:(ts.map (·.1)).Sublist names
 nz:∀ t∈ts,t.2≠0
 bits:∀ t∈ts,Builtin.Int.intBits t.2≤10000
theorem dG {ts:List (Str×Int)} {i:Nat} {d:D} (h:(ts.map tmD)[i]?=some d):∃ t,ts[i]?=some t∧d=.tup [.str t.1,.int t.2]:=by
 rw [C0] at h
 cases e:ts[i]? with
 | none=>rw [e] at h;cases h
 | some n=>rw [e] at h;exact⟨n,rfl,(Option.some.inj h).symm⟩
theorem aF {α:Type} {l:List α} {i:Nat} {x:α} (h:l[i]?=some x):l.take (i + 1)=l.take i++[x]:=by rw [List.take_add_one,h];rfl
inductive Kd where
 | least | more
def kdS:Kd→Str
 | .least=>"least"
 | .more=>"more"
def rowD (k:Kd) (ts:List (Str×Int)) (b:Int):D:=.tup [.str (kdS k),.tup (ts.map tmD),.int b]
def frD (p:Int×Int):D:=.tup [.int p.1,.int p.2]
def ptOf (ks:List Str) (ps:List (Int×Int)) (n:Str):Int×Int:=(dAt ks ps n).getD (0,1)
def pT (ks:List Str) (ps:List (Int×Int)) (n:Str):Int:=(ptOf ks ps n).1
def pB (ks:List Str) (ps:List (Int×Int)) (n:Str):Int:=(ptOf ks ps n).2
theorem sW {α β:Type} (f:α→β):∀ (ks:List Str) (ps:List α) (n:Str),dAt ks (ps.map f) n=(dAt ks ps n).map f
 | [],ps,n=>by cases ps<;>rfl
 | k :: ks,[],n=>rfl
 | k :: ks,p :: ps,n=>by
  show (if k=n then some (f p) else dAt ks (ps.map f) n)=(if k=n then some p else dAt ks ps n).map f
  by_cases e:k=n
  ·rw [if_pos e,if_pos e];rfl
  ·rw [if_neg e,if_neg e];exact sW f ks ps n
theorem rE {α:Type}:∀ {ks:List Str} {ps:List α} {n:Str} {p:α},dAt ks ps n=some p→p∈ps
 | [],ps,n,p,h=>by cases ps<;>cases h
 | k :: ks,[],n,p,h=>by cases h
 | k :: ks,x :: ps,n,p,h=>by
  have h:(if k=n then some x else dAt ks ps n)=some p:=h
  by_cases e:k=n
  ·rw [if_pos e] at h;cases h;exact CP ..
  ·rw [if_neg e] at h;exact CL _ (rE h)
theorem ls {names:List Str} {i:Nat} {d:D} (h:(names.map D.str)[i]?=some d):∃ n,names[i]?=some n∧d=.str n:=by
 rw [C0] at h
 cases e:names[i]? with
 | none=>rw [e] at h;cases h
 | some n=>rw [e] at h;exact⟨n,rfl,(Option.some.inj h).symm⟩
theorem pE {ks:List Str} {x:Str} (h:x∉ks):kPut ks x=ks++[x]:=by unfold kPut;rw [if_neg h]
theorem oE {ks:List Str} {ds:List D} {x:Str} {y:D} (h:x∉ks):vPut ks ds x y=ds++[y]:=by unfold vPut;rw [if_neg h]
theorem uW {l:List Str} {i:Nat} {x:Str} (nd:l.Nodup) (h:l[i]?=some x):x∉l.take i:=by
 intro hm
 obtain ⟨j,hj,e⟩:=List.getElem_of_mem hm
 rw [De] at hj
 rw [List.getElem_take] at e
 obtain ⟨hi,e2⟩:=CY.mp h
 have:=(List.getElem_inj (h₀:=by omega) (h₁:=hi) nd).mp (e.trans e2.symm)
 omega
theorem rK {l:List Str} {i:Nat} {x:Str} (h:l[i]?=some x):x∈l:=C1 h
theorem cR {α:Type} (f:Str→α):∀ {names:List Str} {n:Str},n∈names→dAt names (names.map f) n=some (f n)
 | x :: r,n,h=>by
  show (if x=n then some (f x) else dAt r (r.map f) n)=_
  by_cases e:x=n
  ·rw [if_pos e,e]
  ·rw [if_neg e]
   exact cR f ((CQ.mp h).resolve_left fun z=>e z.symm)
abbrev Rw:=Kd×List (Str×Int)×Int
def rwD (r:Rw):D:=rowD r.1 r.2.1 r.2.2
def cf:List (Str×Int)→Str→Int
 | [],_=>0
 | t :: r,n=>(if t.1=n then t.2 else 0) + cf r n
def cfs:List (Rw×Int)→Str→Int
 | [],_=>0
 | p :: r,n=>p.2 * cf p.1.2.1 n + cfs r n
def bds:List (Rw×Int)→Int
 | []=>0
 | p :: r=>p.2 * p.1.2.2 + bds r
def isM:Kd→Bool
 | .least=>false
 | .more=>true
def stc (l:List (Rw×Int)):Bool:=l.any fun p=>isM p.1.1 && decide (0 < p.2)
def kOf:Bool→Kd
 | true=>.more
 | false=>.least
theorem lM {n:Str}:∀ {a b:List (Str×Int)},cf (a++b) n=cf a n + cf b n
 | [],b=>(Int.zero_add _).symm
 | t :: a,b=>by show _ + cf (a++b) n=_ + cf a n + _;rw [lM];omega
theorem mY {n:Str}:∀ {a b:List (Rw×Int)},cfs (a++b) n=cfs a n + cfs b n
 | [],b=>(Int.zero_add _).symm
 | t :: a,b=>by show _ + cfs (a++b) n=_ + cfs a n + _;rw [mY];omega
theorem ny:∀ {a b:List (Rw×Int)},bds (a++b)=bds a + bds b
 | [],b=>(Int.zero_add _).symm
 | t :: a,b=>by show _ + bds (a++b)=_ + bds a + _;rw [ny];omega
theorem ol {a b:List (Rw×Int)}:stc (a++b)=(stc a || stc b):=List.any_append
theorem nE {p:Rw×Int}:stc [p]=(isM p.1.1 && decide (0 < p.2)):=by unfold stc;simp
theorem jl {n:Str}:∀ {ts:List (Str×Int)},n∉ts.map (·.1)→cf ts n=0
 | [],_=>rfl
 | t :: r,h=>by
  rw [List.map_cons,CQ,not_or] at h
  show (if t.1=n then t.2 else 0) + cf r n=0
  rw [if_neg (fun z=>h.1 z.symm),jl h.2];rfl
structure e8 (F:Str→Int) (ts:List (Str×Int)):Prop where
 pw:(ts.map (·.1)).Pairwise leS
 nd:(ts.map (·.1)).Nodup
 val:∀ t∈ts,t.2=F t.1∧t.2≠0
 all:∀ n,F n≠0→n∈ts.map (·.1)
theorem e8.ext {F:Str→Int} {ts us:List (Str×Int)} (h1:∀ t∈ts,t.2=F t.1) (h2:∀ t∈us,t.2=F t.1) (h:ts.map (·.1)=us.map (·.1)):ts=us:=by
 have e:∀ {l:List (Str×Int)},(∀ t∈l,t.2=F t.1)→l=(l.map (·.1)).map fun n=>(n,F n):=fun {l} hl=>by
  rw [List.map_map]
  conv=>lhs;rw [← List.map_id l]
  refine List.map_congr_left fun t ht=>?_
  show t=(t.1,F t.1)
  rw [← hl t ht]
 rw [e h1,e h2,h]
theorem e8.uniq {F:Str→Int} {ts us:List (Str×Int)} (a:e8 F ts) (b:e8 F us):ts=us:=by
 refine e8.ext (fun t h=>(a.val t h).1) (fun t h=>(b.val t h).1) (kz a.pw b.pw a.nd b.nd fun n=>⟨fun h=>b.all n ?_,fun h=>a.all n ?_⟩)
 ·obtain ⟨t,ht,rfl⟩:=CM.mp h
  rw [← (a.val t ht).1];exact (a.val t ht).2
 ·obtain ⟨t,ht,rfl⟩:=CM.mp h
  rw [← (b.val t ht).1];exact (b.val t ht).2
theorem e8.mk' {F:Str→Int} {ns:List Str} (pw:ns.Pairwise leS) (nd:ns.Nodup) (all:∀ n,F n≠0→n∈ns):e8 F ((ns.filter fun n=>decide (F n≠0)).map fun n=>(n,F n)):=by
 have e:((ns.filter fun n=>decide (F n≠0)).map fun n=>(n,F n)).map (·.1)=ns.filter fun n=>decide (F n≠0):=by rw [List.map_map];exact List.map_id _
 refine⟨by rw [e];exact pw.filter _,by rw [e];exact nd.filter _,fun t ht=>?_,fun n hn=>?_⟩
 ·obtain ⟨n,h1,rfl⟩:=CM.mp ht
  exact⟨rfl,by simpa using (C5.mp h1).2⟩
 ·rw [e,C5]
  exact⟨all n hn,by simpa using hn⟩
theorem pN {f g:Str→D} {x:Str} (h:∀ n,n≠x→g n=f n):∀ ks:List Str,vRep ks (ks.map f) x (g x)=ks.map g
 | []=>rfl
 | k :: ks=>by
  show (if k=x then g x else f k) :: vRep ks (ks.map f) x (g x)=g k :: ks.map g
  rw [pN h ks]
  by_cases e:k=x
  ·rw [if_pos e,e]
  ·rw [if_neg e,h k e]
theorem rL {f g:Str→D} {x:Str} {ks:List Str} (h:∀ n,n≠x→g n=f n):vPut ks (ks.map f) x (g x)=(kPut ks x).map g:=by
 unfold vPut kPut
 by_cases e:x∈ks
 ·rw [if_pos e,if_pos e,pN h]
 ·rw [if_neg e,if_neg e,C3]
  congr 1
  exact List.map_congr_left fun n hn=>(h n fun z=>e (z ▸ hn)).symm
theorem nD {ks:List Str} {x:Str} (h:ks.Nodup):(kPut ks x).Nodup:=by
 unfold kPut
 by_cases e:x∈ks
 ·rw [if_pos e];exact h
 ·rw [if_neg e,List.nodup_append]
  exact⟨h,by simp,fun a ha b hb z=>by rw [C2.mp hb] at z;exact e (z ▸ ha)⟩
theorem ir {ks:List Str} {x n:Str}:n∈kPut ks x↔n∈ks∨n=x:=by
 unfold kPut
 by_cases e:x∈ks
 ·rw [if_pos e]
  exact⟨.inl,fun h=>h.elim id fun z=>z ▸ e⟩
 ·rw [if_neg e,CV,C2]
theorem hZ:∀ {ks nm:List Str},ks.Nodup→(∀ n∈ks,n∈nm)→ks.length≤nm.length
 | [],_,_,_=>Nat.zero_le _
 | k :: ks,nm,h,hs=>by
  obtain ⟨h1,h2⟩:=List.nodup_cons.mp h
  have hk:=hs k (CP ..)
  have:=hZ (ks:=ks) (nm:=nm.erase k) h2 fun n hn=>(List.mem_erase_of_ne (fun z=>h1 (by rw [← z];exact hn))).mpr (hs n (CL _ hn))
  rw [List.length_erase_of_mem hk] at this
  have:0 < nm.length:=List.length_pos_of_mem hk
  rw [CZ]
  omega
theorem nU {α:Type} {x:Str}:∀ {ks:List Str} {ds:List α},x∉ks→dAt ks ds x=none
 | [],ds,_=>by cases ds<;>rfl
 | k :: ks,[],_=>rfl
 | k :: ks,d :: ds,h=>by
  rw [CQ,not_or] at h
  show (if k=x then some d else dAt ks ds x)=none
  rw [if_neg (fun z=>h.1 z.symm)]
  exact nU h.2
theorem pX {F:Str→Int} {ks:List Str} {x:Str} (h:x∉ks→F x=0):(dAt ks (ks.map fun n=>D.int (F n)) x).getD (.int 0)=.int (F x):=by
 by_cases e:x∈ks
 ·rw [cR (fun n=>D.int (F n)) e];rfl
 ·rw [nU e,h e];rfl
theorem oP {rows:List Rw} {ws:List Int}:zipD (rows.map rwD) (ws.map D.int)=(rows.zip ws).map fun p=>D.tup [rwD p.1,.int p.2]:=by
 unfold zipD
 rw [List.zipWith_map,List.zip,List.map_zipWith]
theorem se {nm:List Str} {n:Str}:∀ {l:List (Rw×Int)},(∀ p∈l,∀ t∈p.1.2.1,t.1∈nm)→cfs l n≠0→n∈nm
 | [],_,h=>absurd rfl h
 | p :: r,hp,h=>by
  refine CS fun z=>?_
  have h1:cfs r n=0:=CS fun y=>z (se (fun p h=>hp p (CL _ h)) y)
  have h2:cf p.1.2.1 n=0:=jl fun hm=>by
   obtain ⟨t,ht,e⟩:=CM.mp hm
   exact z (e ▸ hp p (CP ..) t ht)
  refine h ?_
  show p.2 * cf p.1.2.1 n + cfs r n=0
  rw [h1,h2,Int.mul_zero,Int.zero_add]
structure RwOk (nm:List Str) (B:Nat) (r:Rw):Prop where
 sub:∀ t∈r.2.1,t.1∈nm
 bw:∀ t∈r.2.1,Builtin.Int.intBits t.2≤B
 bb:Builtin.Int.intBits r.2.2≤B
structure Pt (ks:List Str) (ps:List (Int×Int)) (X:Nat):Prop where
 len:ps.length=ks.length
 low:∀ p∈ps,Low p.1 p.2
 b1:∀ p∈ps,Builtin.Int.intBits p.1≤X
 b2:∀ p∈ps,Builtin.Int.intBits p.2≤X
theorem Pt.at {ks:List Str} {ps:List (Int×Int)} {X:Nat} {n:Str} (hp:Pt ks ps X) (h:n∈ks):dAt ks ps n=some (ptOf ks ps n)∧ptOf ks ps n∈ps:=by
 have e:=kb (ks:=ks) (ds:=ps) (x:=n) hp.len.symm
 rw [decide_eq_true h] at e
 cases q:dAt ks ps n with
 | none=>rw [q] at e;cases e
 | some p =>
  have:ptOf ks ps n=p:=by unfold ptOf;rw [q];rfl
  rw [this]
  exact⟨rfl,rE q⟩
theorem Pt.D {ks:List Str} {ps:List (Int×Int)} {X:Nat} {n:Str} (hp:Pt ks ps X) (h:n∈ks):dAt ks (ps.map frD) n=some (.tup [.int (pT ks ps n),.int (pB ks ps n)]):=by
 rw [sW,(hp.at h).1];rfl
theorem Pt.pos {ks:List Str} {ps:List (Int×Int)} {X:Nat} {n:Str} (hp:Pt ks ps X) (h:n∈ks):0 < pB ks ps n:=(hp.low _ (hp.at h).2).pos
theorem Pt.Bb {ks:List Str} {ps:List (Int×Int)} {X:Nat} {n:Str} (hp:Pt ks ps X) (h:n∈ks):Builtin.Int.intBits (pB ks ps n)≤X:=hp.b2 _ (hp.at h).2
theorem Pt.Tb {ks:List Str} {ps:List (Int×Int)} {X:Nat} {n:Str} (hp:Pt ks ps X) (h:n∈ks):Builtin.Int.intBits (pT ks ps n)≤X:=hp.b1 _ (hp.at h).2
theorem Pt.mono {ks:List Str} {ps:List (Int×Int)} {X Y:Nat} (hp:Pt ks ps X) (h:X≤Y):Pt ks ps Y:=⟨hp.len,hp.low,fun p hq=>CN (hp.b1 p hq) h,fun p hq=>CN (hp.b2 p hq) h⟩
end Mf
namespace DL
open PySem PySem.Spec PyProof.Rows L2
section
variable {X:Cx} {pos:Pos} {a b e:Expr} {es:List Expr} {ta tb:TDE} {t:TDA}
theorem qj:cj X (.type "dict") (fun xs H Q=>∃ a kvs,xs=[.ref a]∧Rd H a (.dK kvs)∧∀ l,H l=none→Q (.ref l) (upd H l (.dK kvs))):=by
 intro pins s σ H xs us Q I rv h
 obtain ⟨a,kvs,rfl,e,k⟩:=h
 obtain ⟨u,rfl,ru⟩:=gw rv
 cases ru
 obtain ⟨hz,lo,va,ra,da⟩:=iZ I.hok e
 have fr:H s.heap.objs.size=none:=I.hok.fresh (Nat.le_refl _)
 refine kt_call_dict lo da (by rw [← ra.length];exact hz) fun h' dd sb=>?_
 have kp:∀ b o,s.heap.get? b=some o→h'.get? b=some o:=fun b o e=>sb.extBut b o (Nat.ne_of_lt (Heap.lt_size e)) (CO _ e)
 have lo2:(s.heap.objs.size == sysModules)=false:=beq_eq_false_iff_ne.mpr (Nat.ne_of_gt I.big)
 exact⟨.ref _,_,I.laid (t':=s.toks) kp (Nat.le_refl _) (uc hz lo2 ra dd),rfl,k _ fr⟩
def wv (i:Nat) (te:TDE):TDS:=fun R δ=>te δ (wd fun d δ1=>∃ ks ds,(d=.dct ks ds∨d=.fd ks ds)∧∀ a,R.nx (δ1.set i (.own a (.dct ks ds))))
theorem vd (i:Nat) {y:Str} {p pos' pos2:Pos} (hN:X.N.Nodup) (hg:Gl X "dict") (hm:X.mg "dict"=none) (he:DE X e ta) (hi:X.N[i]?=some y:=by rfl) (hx:Loc X.env.scope y:=by walk_at "v2")
  (h2:starEach [e] X.env=(false,eval e X.env) :: starEach [] X.env:=by rfl) (hpl:(backTo pos2 (starEach [] X.env)).any (·.1)=false:=by rfl)
  (hs:swapsWith (.Call (.Name "dict" p) [e] [] pos2) (some (.Name y pos')) pos.line X.env=pure false:=by rfl) (hf:X.fn y=true∨X.env.scope.names.lookup y=some .local :=by walk_at "v1") :
  DS X (.Assign [.Name y pos'] (.Call (.Name "dict" p) [e] [] pos2) pos) (wv i ta) :=
 PS.imp (lY hN hi hx (iW qj hg hm Bp (bQ he eR h2) (by decide) (by decide) h2 hpl) hs hf) fun E σ H ⟨G,δ,P,R,s,h,k,_⟩=>up.mk s h fun d δ1 ⟨ks,ds,ed,r⟩ v H1 ⟨A,q⟩=>by
  have r0:∃ a0 vs,v=.ref a0∧Rd H1 a0 (.dK (a4 ks vs))∧ks.length=ds.length∧Reps X.K (fun b=>G.M0 b∨A b) H1 ds vs:=by
   rcases ed with ed | ed
   ·subst ed
    have r0:=q.pnd (.dct ks ds,v) (by simp)
    unfold Rep at r0
    obtain ⟨a0,vs,e,n0,e0,l0,rs⟩:=r0
    exact⟨a0,vs,e,.inl e0,l0,rs⟩
   ·subst ed
    have r0:=q.pnd (.fd ks ds,v) (by simp)
    unfold Rep at r0
    obtain ⟨a0,vs,o,e,e0,l0,rs⟩:=r0
    exact⟨a0,vs,e,.inr ⟨o,e0⟩,l0,rs⟩
  obtain ⟨a0,vs,rfl,e0,l0,rs⟩:=r0
  refine⟨a0,_,rfl,e0,fun l hl=>?_⟩
  have sm:=aJ hl (.dK (a4 ks vs))
  refine k _ (r l) _ _ ⟨_,q.claim (P':=P) hl sm ⟨vs,aI,l0,Reps.kp (Kp.of_same sm) _ _ (Reps.more (fun b z=>?_) _ _ rs)⟩ fun q hq=>CL _ hq⟩
  rcases z with z | z
  ·exact .inl z
  ·exact .inr (by rw [z];exact hl)
def Cf:V→List V→Hp→VK→Prop:=fun x vs H Q=>∃ l xs y,x=.ref l∧vs=[.int 0,y]∧H l=some (.lst xs)∧xs.length < sizeLine∧Q .non (upd H l (.lst (y :: xs)))
theorem wT:MtM X "list.insert" Cf:=by
 intro pins s σ H x vs v us Q I rx rv h
 obtain ⟨l,xs,y,rfl,rfl,hH,hz,q⟩:=h
 cases rx
 cases rv with
 | cons r0 rv =>
  obtain ⟨t,rfl⟩:=r0
  obtain ⟨u,rfl,ru⟩:=gw rv
  obtain ⟨z,its,n,r,hl,e⟩:=I.lstM hH
  refine call_meets PySem.F.slot_list_insert ⟨_,e,rfl⟩ PySem.F.entry_list_insert (PySem.F.args_list_insert_3 _ _ _) (PySem.AutoSeq1.list_insert_list_int_val_1 l its.toArray n 0 t u (by decide) (by rw [C7];omega)) ⟨e,?_⟩
  refine⟨.non,_,I.lset (its':=u :: its) hH e ?_ (.cons ru r) ?_,rfl,q⟩
  ·apply Array.toList_inj.mp
   simp
  ·rw [CZ];omega
def As (i:Nat) (te:TDE):TDS:=fun R δ=>∃ a ds,δ[i]?=some (.own a (.lst ds))∧te δ (wd fun x δ1=>∃ ds,δ1[i]?=some (.own a (.lst ds))∧ds.length < 9000∧R.nx (δ1.set i (.own a (.lst (x :: ds)))))
theorem vB (i:Nat) {y:Str} {j0} {p p0 apos cpos:Pos} (he:DE X e ta) (hN:X.N[i]?=some y:=by rfl) (hv:Vis X.env.scope y:=by walk_at "v3")
  (hd:(y == ("__debug__":Str))=false:=by decide) (hcd:(y == ("__classdict__":Str))=false:=by decide)
  (hbase:attributeBase (.Name y p) "insert" X.env (eval (.Name y p) X.env)=eval (.Name y p) X.env:=by rfl)
  (hfew:((backTo cpos (starEach [.Constant (.int 0) j0 p0,e] X.env)).all (fun x=>!x.1) && (backToKw cpos (keywordEach [] X.env)).all (fun x=>x.1.isSome) && decide ([Expr.Constant (.int 0) j0 p0,e].length + ([]:List Keyword).length + (if ([]:List Keyword).isEmpty then 0 else 1) < 30))=true:=by rfl)
  (hline:(apos.endLine == cpos.line)=true:=by rfl) (hs:starEach [.Constant (.int 0) j0 p0,e] X.env=(false,eval (.Constant (.int 0) j0 p0) X.env) :: starEach [e] X.env:=by rfl) (hs2:starEach [e] X.env=(false,eval e X.env) :: starEach [] X.env:=by rfl) (hplain:(backTo cpos (starEach [e] X.env)).any (·.1)=false:=by rfl)
  (hsw:swapsWith (.Call (.Attribute (.Name y p) "insert" apos) [.Constant (.int 0) j0 p0,e] [] cpos) none pos.line X.env=pure false:=by rfl) :
  DS X (.Expr (.Call (.Attribute (.Name y p) "insert" apos) [.Constant (.int 0) j0 p0,e] [] cpos) pos) (As i ta) :=
 PS.imp (nQ (By PySem.F.plainAttrs_list PySem.F.slot_list_insert PySem.F.type_list_insert wT (eA hN hv hd hcd) (bQ vU (bQ he eR hs2) hs) hbase hfew hline hs hplain) hsw) fun E σ H h_0=>by
  obtain ⟨G,δ,P,R,s,⟨a,ds0,hi0,h⟩,k,_⟩:=h_0
  obtain ⟨A0,x0⟩:=id s
  obtain ⟨h0,_,vs0,hvs0,_⟩:=gG x0 hi0
  refine⟨.ref a,h0,.inl ⟨rfl,vs0,SqL.of hvs0⟩,up.mk s h fun x δ1 ⟨ds,hi,hz,r⟩ v H1 ⟨A,q⟩=>?_⟩
  obtain ⟨_,aa,vs,hvs,rs⟩:=gG q hi
  refine⟨a,vs,v,rfl,rfl,hvs,by rw [← Reps.length _ _ rs];exact iD (Nat.le_of_lt hz),k _ r _ _ ⟨A,(q.change (d':=.lst (x :: ds)) hi (fun b o n e=>by rw [aO n];exact e) ⟨v :: vs,aI,?_⟩).sub (P':=P) fun q hq=>CL _ hq⟩⟩
  have kp:Kp (fun b=>G.M0 b∨A b) H1 (upd H1 a (.lst (v :: vs))):=by
   have hk:∀ b o,b≠a→H1 b=some o→upd H1 a (.lst (v :: vs)) b=some o:=fun b o n e=>by rw [aO n];exact e
   exact⟨fun b o e n=>hk b o (fun z=>n (.inr (by rw [z];exact aa))) e,fun b xs e=>hk b _ (fun z=>by rw [z,hvs] at e;cases e) e,fun b o u e=>hk b _ (fun z=>by rw [z,hvs] at e;cases e) e⟩
  exact Reps.kp kp _ _ (Reps.cons (q.pnd (x,v) (by simp)) rs)
structure GEnd (K:PySem.W.Frag) (mg:Str→Option Value) (x:Str):Prop where
 ex:∃ a o n,mg x=some (.ref a)∧K.lookup a=some o∧o.cls=.type "tuple"∧o.data=.seq #[.none,.bool false] n
theorem sQ {x:Str} (hg:Gl X x) (h:GEnd X.K X.mg x) (hd:(x == ("__debug__":Str))=false:=by decide):DE X (.Name x pos) (dC (.tup [.non,.bl false])):=by
 obtain ⟨a,o,n,e,h1,h2,h3⟩:=h.ex
 refine PE.imp (mC (v:=.ref a) hg e rfl hd) fun σ H Q ⟨G,δ,P,R,⟨A,s⟩,h,k,_⟩=>k _ δ h _ H ⟨A,s.push ?_⟩
 unfold Rep
 exact⟨a,[.non,.bl false],rfl,.inr ⟨o,_,n,h1,h2,h3,by show 2≤sizeLine;decide,.cons rfl (.cons rfl .nil)⟩,Reps.cons (by unfold Rep;rfl) (Reps.one (by unfold Rep;rfl))⟩
end
end DL
namespace DL
open PySem PySem.Spec PyProof.Rows L2
def Ite (K:PySem.W.Frag) (a:Addr):It :=
  ⟨fun i H=>∃ xs x,SqL K H a xs∧xs[i]?=some x,
   fun i H v H'=>∃ T x,H T=none∧H'=upd H T (.tup [.int (i:Nat),x])∧v=.ref T∧∀ xs,SqL K H a xs→xs[i]?=some x,
   fun i H=>∃ xs,SqL K H a xs∧xs.length≤i⟩
def EI (h:Heap) (e it a:Addr) (m:Nat):Prop:=(∃ old,IsEnum h e it ((m:Nat):Int) old)∧h.IsListIter it a m
theorem tR {P:Program} {w:World} {K:PySem.W.Frag} {elts:List Expr} {x1} {pos:Pos} {e it a:Addr} (hne:e≠it):Turn P w K (.Tuple elts x1 pos) (Ite K a) [e,it] e (fun m h=>EI h e it a m) where
 mem:=by simp
 obj:=fun m h Z c hc=>by
  obtain ⟨⟨old,z⟩,zi⟩:=Z
  simp only [CQ,List.not_mem_nil,or_false] at hc
  rcases hc with rfl | rfl
  ·exact⟨_,z,fun v=>nofun⟩
  ·obtain ⟨q,x,_,d⟩:=zi
   exact⟨q,x,fun v=>by rw [d];nofun⟩
 keep:=fun m h h' Z kk=>by
  obtain ⟨⟨old,z⟩,zi⟩:=Z
  exact⟨⟨old,kk _ (by simp) _ z⟩,zi.at fun o x=>kk _ (by simp) o x⟩
 item:=by
  intro X hP hw hK hc m pins s σ H E I hf Z hg
  subst hP hw hK
  obtain ⟨xs,x,h1,hx⟩:=hg
  obtain ⟨⟨old,z⟩,zi⟩:=Z
  obtain ⟨is,r1,p1,_⟩:=I.list h1
  obtain ⟨u,hu,ru⟩:=r1.get hx
  refine wpAny_pyNext_enum_item z zi p1.isList (by simpa using hu) hne fun h' e1 i1 t1 n1 kk=>⟨_,rfl,?_⟩
  refine wpAny_letOwnedTupleGo_enum (s:={ s with heap:=h',toks:=s.toks + 1 }) e1 fun h2 e2 s2=>?_
  have s2:Heap.SameBut e h' h2:=s2
  have hfr:H s.heap.objs.size=none:=I.hok.fresh (Nat.le_refl _)
  have I1:Inv X pins σ (upd H s.heap.objs.size (.tup [.int (m:Nat),x])) { s with heap:=s.heap.push { cls:=.type "tuple",data:=.seq #[.int (m:Nat) s.toks,u] },toks:=s.toks + 1 }:=I.laid (t':=s.toks + 1) (fun b u e=>CO _ e) (Nat.le_refl _) ⟨by show 2≤sizeLine;decide,[.int (m:Nat) s.toks,u],.cons ⟨_,rfl⟩ (.cons ru .nil),⟨_,Da _ rfl,rfl,_,rfl⟩⟩
  have ne:∀ {c o},s.heap.get? c=some o→c≠s.heap.objs.size:=fun e=>Nat.ne_of_lt (Heap.lt_size e)
  have le:e≠s.heap.objs.size:=ne z
  have li:it≠s.heap.objs.size:=by obtain ⟨q,y,_⟩:=zi;exact ne y
  have fr:∀ c∈[e,it],upd H s.heap.objs.size (.tup [.int (m:Nat),x]) c=none:=fun c hc'=>by
   rw [aO (by simp only [CQ,List.not_mem_nil,or_false] at hc';rcases hc' with rfl | rfl;exact le;exact li)];exact (hf c hc').1
  have I2:Inv X pins σ (upd H s.heap.objs.size (.tup [.int (m:Nat),x])) { s with heap:=h2,toks:=s.toks + 1 }:=kK (s:={ s with heap:=s.heap.push { cls:=.type "tuple",data:=.seq #[.int (m:Nat) s.toks,u] },toks:=s.toks + 1 }) (t':=s.toks + 1) (fp:=[e,it]) I1 (fun c q hc ec=>?_) fun c hc=>⟨fr c hc,(hf c hc).2⟩
  ·exact⟨.ref s.heap.objs.size,_,I2,rfl,⟨_,x,hfr,rfl,rfl,fun zs hz=>by rw [I.list_inj hz h1];exact hx⟩,⟨⟨_,e2⟩,i1.at fun o y=>s2.extBut _ _ (Ne.symm hne) y⟩,fr⟩
  ·have n1:c≠e:=fun z=>hc (by rw [z];simp)
   have n2:c≠it:=fun z=>hc (by rw [z];simp)
   rcases Heap.get?_push_cases ec with ⟨rfl,rfl⟩ | ec
   ·exact s2.extBut _ _ n1 t1
   ·exact s2.extBut _ _ n1 (kk c q n1 n2 ec)
 done:=by
  intro X hP hw hK hc m pins s σ H E I hf Z hg
  subst hP hw hK
  obtain ⟨xs,h1,hl⟩:=hg
  obtain ⟨⟨old,z⟩,zi⟩:=Z
  obtain ⟨is,r1,p1,_⟩:=I.list h1
  have l1:=r1.length
  refine wpAny_pyNext_enum_end (I.ok.hd hc) z zi p1.isList (by simp;omega) fun h' kk=>⟨rfl,kK (t':=s.toks) (fp:=[e,it]) I (fun c q hc e=>kk c q (fun z=>hc (by rw [z];simp)) e) hf⟩
 self:=fun _ _ _ _ _ Z h=>wpAny_pyIter_enum Z.1.choose_spec h
section
variable {X:Cx}
def BX (K:PySem.W.Frag) (ta:TA):TI:=fun σ H R=>ta σ H fun vs H1=>∃ a,vs=[.ref a]∧(∃ xs,SqL K H1 a xs)∧R (Ite K a) H1
theorem xy {a:Expr} {ta:TA} {p pos:Pos} {elts:List Expr} {x1} {pos':Pos} (hg:Gl X "enumerate") (hm:X.mg "enumerate"=none) (ha:PA X [a] ta) (hs:starEach [a] X.env=[(false,eval a X.env)]:=by rfl) :
  PI X (.Tuple elts x1 pos') (.Call (.Name "enumerate" p) [a] [] pos) (BX X.K ta):=by
 intro pins s σ H R I h
 refine Call_ (jh I hg hm boot_enumerate (PyProof.Rows.callWith_type1 (thn (ha pos pins s σ H _ I h) fun us s1 ⟨vs,H1,I1,r1,q1⟩=>?_) (by rw [hs];rfl) rfl))
 obtain ⟨c,e,⟨xs,hx⟩,q⟩:=q1
 subst e
 obtain ⟨u,rfl,ru⟩:=gw r1
 cases ru
 obtain ⟨is,_,p1,_⟩:=I1.list hx
 refine call_enumerate_list p1.isList fun h' e1 i1 n1 up=>wpAny_pyIter_enum (s:={ s1 with heap:=h' }) e1 ?_
 have n1:s1.heap.objs.size + 1≠s1.heap.objs.size:=fun z=>by have z:(_:Nat)=_:=z;omega
 refine⟨_,[s1.heap.objs.size + 1,s1.heap.objs.size],_,_,H1,rfl,I1.kept (t':=s1.toks) up,tR n1,⟨⟨_,e1⟩,i1⟩,fun b hb=>?_,q⟩
 have hb:s1.heap.objs.size≤b:=by
  simp only [CQ,List.not_mem_nil,or_false] at hb
  rcases hb with rfl | rfl
  ·exact Nat.le_add_right ..
  ·exact Nat.le_refl _
 exact I1.fpOk hb (I1.hok.fresh hb)
def enD (xs:List D):List D:=xs.mapIdx fun i x=>.tup [.int (i:Nat),x]
def wg (t:TDA):TDC:=fun δ R=>t δ fun ds δ1=>∃ xs,ds=[.lst xs]∧R (enD xs) δ1
theorem rQ {a:Expr} {ta:TDA} {p pos:Pos} {elts:List Expr} {x1} {pos':Pos} (hg:Gl X "enumerate") (hm:X.mg "enumerate"=none) (ha:DA X [a] ta) (hs:starEach [a] X.env=[(false,eval a X.env)]:=by rfl) :
  CI X (.Tuple elts x1 pos') (.Call (.Name "enumerate" p) [a] [] pos) (wg ta) :=
 ⟨_,xy hg hm ha hs,fun G δ P σ H R Q s hs kk=>⟨G,δ,P,_,s,hs,fun ds δ1 h1 vs H1 hl s1=>by
  obtain ⟨xs,e,r⟩:=h1
  subst e
  match vs,hl with
  | [v],_ =>
   have s2:S X.K G δ1 ((.lst xs,v) :: P) σ H1:=s1
   have at1:∀ A δ σ H,Sx X.K G A δ ((.lst xs,v) :: P) σ H→∃ a vs,v=.ref a∧SqL X.K H a vs∧Reps X.K (fun b=>G.M0 b∨A b) H xs vs:=fun A δ σ H x=>by
    have q:=x.pnd (.lst xs,v) (by simp)
    unfold Rep at q
    obtain ⟨a,vs,e,_,l,r⟩:=q
    exact⟨a,vs,e,SqL.of l,r⟩
   obtain ⟨A1,x1⟩:=id s2
   obtain ⟨a,vs0,rfl,l0,_⟩:=at1 _ _ _ _ x1
   have hlen:(enD xs).length=xs.length:=by unfold enD;rw [List.length_mapIdx]
   refine⟨a,rfl,⟨vs0,l0⟩,kk _ δ1 r _ _ H1 (fun q hq=>by simp [hq]) s2 (fun A δ σ i H x hi=>?_) (fun A δ σ H x=>?_) fun A δ σ i y H H2 x hi hy=>?_⟩
   ·obtain ⟨_,vs,e,l,r⟩:=at1 _ _ _ _ x
    cases e
    obtain ⟨v',hv,_⟩:=Reps.get _ _ r i (xs[i]'(by omega)) (by simp)
    exact⟨vs,v',l,hv⟩
   ·obtain ⟨_,vs,e,l,r⟩:=at1 _ _ _ _ x
    cases e
    have:=Reps.length _ _ r
    exact⟨vs,l,by omega⟩
   ·obtain ⟨_,vs,e,l,r⟩:=at1 _ _ _ _ x
    cases e
    obtain ⟨T,x',hT,rfl,rfl,hx⟩:=hy
    have hi1:i < xs.length:=by omega
    obtain ⟨v',hv,rv⟩:=Reps.get _ _ r i xs[i] (by simp [hi1])
    have e1:=hx vs l
    rw [hv] at e1
    have e1:=Option.some.inj e1
    rw [e1] at rv
    have sm:Same H (upd H T (.tup [.int (i:Nat),x'])):=aJ hT _
    refine⟨sm,.tup [.int (i:Nat),xs[i]],?_,?_⟩
    ·unfold enD
     rw [List.getElem?_mapIdx,Dk hi1];rfl
    ·unfold Rep
     exact⟨T,[.int (i:Nat),x'],rfl,.inl (.inl aI),Reps.cons (by unfold Rep;rfl) (Reps.one (Rep.kp (Kp.of_same sm) _ _ rv))⟩⟩⟩
end
def Itv (K:PySem.W.Frag) (a:Addr) (n:Nat):It :=
  ⟨fun i H=>i < n∧∃ xs x,SqL K H a xs∧xs.length=n∧xs[n - 1 - i]?=some x,
   fun i H v H'=>H'=H∧∀ xs,SqL K H a xs→xs[n - 1 - i]?=some v,
   fun i _=>i=n⟩
theorem vz {P:Program} {w:World} {K:PySem.W.Frag} {tg:Expr} {a it:Addr} {n:Nat}:Turn P w K tg (Itv K a n) [it] it (fun i h=>h.IsRevIter it a ((n:Int) - 1 - (i:Nat))) where
 mem:=by simp
 obj:=fun i h st b hb=>by
  have e:b=it:=by simpa using hb
  subst e
  obtain ⟨o,ho,_,d⟩:=st
  exact⟨o,ho,fun v=>by rw [d];nofun⟩
 keep:=fun i h h' st k=>st.at fun o e=>k it (by simp) o e
 item:=by
  intro X hP hw hK hc i pins s σ H E I hf st hg
  subst hP hw hK
  obtain ⟨f0,f1,f2,f3,f4,f5⟩:=hf it (by simp)
  obtain ⟨hi,xs,x,h1,hn,hx⟩:=hg
  obtain ⟨is,r1,p1,_⟩:=I.list h1
  obtain ⟨u,hu,ru⟩:=r1.get hx
  have e:(n:Int) - 1 - (i:Nat)=((n - 1 - i:Nat):Int):=by omega
  rw [e] at st
  refine wpAny_pyNext_rev_item st p1.isList (by simpa using hu) fun h' st' sb=>⟨_,rfl,?_⟩
  have e2:((n - 1 - i:Nat):Int) - 1=(n:Int) - 1 - ((i + 1:Nat):Int):=by omega
  rw [e2] at st'
  obtain ⟨o,ho,hoc,hod⟩:=id st'
  have I1:Inv X pins σ H { s with heap:=h' }:=I.turned (t':=s.toks) (fun b o hb e=>sb.extBut b o hb e) f0 f1 f3 f4 f5
  exact ri (s:={ s with heap:=h' }) (n:="list_reverseiterator") ho hoc hod (by decide) ⟨x,H,I1,ru,⟨rfl,fun zs hz=>by rw [I.list_inj hz h1];exact hx⟩,st',fun b hb=>(hf b hb).1⟩
 done:=by
  intro X hP hw hK hc i pins s σ H E I hf st hg
  subst hP hw hK
  obtain ⟨f0,f1,f2,f3,f4,f5⟩:=hf it (by simp)
  have hg:i=n:=hg
  subst hg
  have e:(i:Int) - 1 - (i:Nat)=-1:=by omega
  rw [e] at st
  exact wpAny_pyNext_rev_end (I.ok.hd hc) st fun h' eb=>⟨rfl,I.turned (t':=s.toks) (fun b o hb e=>eb b o hb e) f0 f1 f3 f4 f5⟩
 self:=fun _ _ _ _ _ st h=>wpAny_pyIter_revIter st h
section
variable {X:Cx} {tg:Expr}
def iRev (K:PySem.W.Frag) (ta:TA):TI:=fun σ H R=>ta σ H fun vs H1=>∃ a xs,vs=[.ref a]∧SqL K H1 a xs∧R (Itv K a xs.length) H1
theorem AC {a:Expr} {ta:TA} {p pos:Pos} (hg:Gl X "reversed") (hm:X.mg "reversed"=none) (ha:PA X [a] ta) (hs:starEach [a] X.env=[(false,eval a X.env)]:=by rfl) :
  PI X tg (.Call (.Name "reversed" p) [a] [] pos) (iRev X.K ta):=by
 intro pins s σ H R I h
 refine Call_ (jh I hg hm boot_reversed (PyProof.Rows.callWith_type1 (thn (ha pos pins s σ H _ I h) fun us s1 ⟨vs,H1,I1,r1,q1⟩=>?_) (by rw [hs];rfl) rfl))
 obtain ⟨c,xs,e,hx,q⟩:=q1
 subst e
 obtain ⟨u,rfl,ru⟩:=gw r1
 cases ru
 obtain ⟨is,rv,p1,_⟩:=I1.list hx
 have hl:is.toArray.size=xs.length:=by rw [C7,rv.length]
 refine call_reversed_list p1.isList ?_
 have st:(s1.heap.push (revObj c ((is.toArray.size:Int) - 1))).IsRevIter s1.heap.objs.size c ((xs.length:Int) - 1 - ((0:Nat):Int)):=⟨_,Da _ rfl,rfl,by show Data.fields #[.ref c,rawInt ((is.toArray.size:Int) - 1)]=_;rw [hl,show ((0:Nat):Int)=0 from rfl,Int.sub_zero]⟩
 refine wpAny_pyIter_revIter (s:={ s1 with heap:=s1.heap.push (revObj c ((is.toArray.size:Int) - 1)) }) st ?_
 refine⟨_,[s1.heap.objs.size],_,_,H1,rfl,I1.kept (t':=s1.toks) fun b o e=>CO _ e,vz,st,fun b hb=>?_,q⟩
 have e:b=s1.heap.objs.size:=by simpa using hb
 subst e
 exact I1.fpOk (Nat.le_refl _) (I1.hok.fresh (Nat.le_refl _))
def A7 (t:TDA):TDC:=fun δ R=>t δ fun ds δ1=>∃ xs,ds=[.lst xs]∧R xs.reverse δ1
theorem Ar {a:Expr} {ta:TDA} {p pos:Pos} (hg:Gl X "reversed") (hm:X.mg "reversed"=none) (ha:DA X [a] ta) (hs:starEach [a] X.env=[(false,eval a X.env)]:=by rfl) :
  CI X tg (.Call (.Name "reversed" p) [a] [] pos) (A7 ta) :=
 ⟨_,AC hg hm ha hs,fun G δ P σ H R Q s hs kk=>⟨G,δ,P,_,s,hs,fun ds δ1 h1 vs H1 hl s1=>by
  obtain ⟨xs,e,r⟩:=h1
  subst e
  match vs,hl with
  | [v],_ =>
   have s2:S X.K G δ1 ((.lst xs,v) :: P) σ H1:=s1
   have at1:∀ A δ σ H,Sx X.K G A δ ((.lst xs,v) :: P) σ H→∃ a vs,v=.ref a∧SqL X.K H a vs∧Reps X.K (fun b=>G.M0 b∨A b) H xs vs:=fun A δ σ H x=>by
    have q:=x.pnd (.lst xs,v) (by simp)
    unfold Rep at q
    obtain ⟨a,vs,e,_,l,r⟩:=q
    exact⟨a,vs,e,SqL.of l,r⟩
   obtain ⟨A1,x1⟩:=id s2
   obtain ⟨a,vs0,rfl,l0,r0⟩:=at1 _ _ _ _ x1
   have hl0:=Reps.length _ _ r0
   refine⟨a,vs0,rfl,l0,kk _ δ1 r _ _ H1 (fun q hq=>by simp [hq]) s2 (fun A δ σ i H x hi=>?_) (fun A δ σ H x=>by show xs.reverse.length=vs0.length;rw [List.length_reverse,hl0]) fun A δ σ i y H H2 x hi hy=>?_⟩
   ·rw [List.length_reverse] at hi
    obtain ⟨_,vs,e,l,r⟩:=at1 _ _ _ _ x
    cases e
    have hl1:=Reps.length _ _ r
    obtain ⟨v',hv,_⟩:=Reps.get _ _ r (vs0.length - 1 - i) (xs[vs0.length - 1 - i]'(by omega)) (by simp)
    exact⟨by omega,vs,v',l,by omega,hv⟩
   ·rw [List.length_reverse] at hi
    obtain ⟨_,vs,e,l,r⟩:=at1 _ _ _ _ x
    cases e
    have hl1:=Reps.length _ _ r
    obtain ⟨e,hy⟩:=hy
    subst e
    obtain ⟨v',hv,rv⟩:=Reps.get _ _ r (vs0.length - 1 - i) (xs[vs0.length - 1 - i]'(by omega)) (by simp)
    have z:=hy vs l
    rw [hv] at z
    cases z
    refine⟨Same.refl _,_,?_,rv⟩
    have e9:xs.length - 1 - i=vs0.length - 1 - i:=by omega
    rw [List.getElem?_reverse (by omega),e9]
    exact Dk _⟩⟩
end
end DL
namespace DL
open PySem PySem.Spec PyProof.Rows L2
section
variable {P:Program} {w:World} {h h':Heap} {a:Addr} {es:Array (Int×Value)} {ep:Nat} {t:SetTable}
end
section
variable {prog:Program} {w:World} {A:Around} {E:Value→Shared→Prop} {s:Shared}
end
section
variable {prog:Program} {w:World} {A:Around} {R:Result→Shared→Prop} {I:Addr} {fp wr:List Addr} {G:Array GenState→Array GenState→Prop} {n:Nat} {P:Nat→Value→Prop} {St:Nat→Shared→Prop}
end
section
variable {prog:Program} {w:World} {A:Around} {E:Value→Shared→Prop} {s:Shared}
set_option maxRecDepth 100000 in
set_option maxHeartbeats 3200000 in
end
end DL
namespace DL
open PySem PySem.Spec PyProof.Rows L2
namespace FS
end FS
section
variable {prog:Program} {w:World} {A:Around} {E:Value→Shared→Prop} {s:Shared}
end
section
variable {prog:Program} {w:World} {A:Around} {E:Value→Shared→Prop} {s:Shared} {I S:Addr} {es:Array (Int×Value)} {ep:Nat} {t:SetTable} {F:Heap→Nat→Value→Prop} {vs:List Value}
set_option maxHeartbeats 1000000 in
set_option maxHeartbeats 1000000 in
end
end DL
namespace DL
open PySem PySem.Spec PyProof.Rows L2
section
variable {prog:Program} {w:World} {A:Around} {E:Value→Shared→Prop} {s:Shared} {I S:Addr} {es:Array (Int×Value)} {ep:Nat} {t:SetTable} {F:Heap→Nat→Value→Prop} {vs:List Value}
set_option maxHeartbeats 2000000 in
end
section
variable {X:Cx} {e:Expr} {p p2 pos pos2:Pos} {te:TE}
end
end DL
namespace DL
open PySem PySem.Spec PyProof.Rows L2
section
variable {K:PySem.W.Frag} {G:Gf} {A:Addr→Prop} {δ:List Sl} {P:List (D×V)} {σ:L2.St} {H:Hp}
theorem Sx.freezeF {i:Nat} {a:Addr} {ks:List Str} {ds:List D} {o:Obj} (s:Sx K G A δ P σ H) (hi:δ[i]?=some (.own a (.dct ks ds))) (hp:¬ G.M0 a) :
  ∃ kvs,H a=some (.dK kvs)∧Sx K G (fun b=>A b∧b≠a) (δ.set i (.dat (.fd ks ds))) P σ (upd H a (.frz o (.dK kvs))):=by
 obtain ⟨si,ai,vs,hH,l,rs⟩:=s.own i a _ hi
 refine⟨_,hH,?_⟩
 have hk:∀ b u,b≠a→H b=some u→upd H a (.frz o (.dK (a4 ks vs))) b=some u:=fun b u n e=>by rw [aO n];exact e
 have kp:Kp (fun b=>G.M0 b∨A b) H (upd H a (.frz o (.dK (a4 ks vs)))) :=
  ⟨fun b u e n=>hk b u (fun z=>n (.inr (by rw [z];exact ai))) e,fun b xs e=>hk b _ (fun z=>by rw [z,hH] at e;cases e) e,fun b u v e=>hk b _ (fun z=>by rw [z,hH] at e;cases e) e⟩
 have hM:∀ b,(G.M0 b∨(A b∧b≠a))→(G.M0 b∨A b):=fun b h=>h.elim .inl fun z=>.inr z.1
 have dn:∀ d v,Rep K (fun b=>G.M0 b∨A b) H d v→Rep K (fun b=>G.M0 b∨(A b∧b≠a)) (upd H a (.frz o (.dK (a4 ks vs)))) d v:=fun d v r=>Rep.more (fun b z=>.inl (hM b z)) _ _ (Rep.kp kp _ _ r)
 have stay:∀ b,H b≠none→upd H a (.frz o (.dK (a4 ks vs))) b≠none:=fun b e=>by
  by_cases z:b=a
  ·rw [z,aI];exact fun q=>nomatch q
  ·rw [aO z];exact e
 refine⟨fun b u e n=>hk b u (fun z=>?_) (s.old b u e n),fun b e=>stay b (s.stay b e),s.m0,s.pm,fun b h=>s.new b h.1,fun b h=>stay b (s.thr b h.1),by rw [List.length_set,s.len],fun j x e=>?_,fun j b x e=>?_,fun j k b x y h1 h2=>?_,fun p hp=>dn _ _ (s.pnd p hp)⟩
 ·subst z
  exact (s.new b ai).elim (fun q=>by rw [q] at e;cases e) fun q=>n q
 ·rcases a7 e with ⟨hij,z,_⟩ | ⟨hij,e⟩
  ·cases z;subst hij
   refine⟨.ref a,si,?_⟩
   unfold Rep
   exact⟨a,vs,o,rfl,aI,l,Reps.more (fun b z=>.inl (hM b z)) _ _ (Reps.kp kp _ _ rs)⟩
  ·obtain ⟨v,q,r⟩:=s.dat j x e
   exact⟨v,q,dn _ _ r⟩
 ·rcases a7 e with ⟨_,z,_⟩ | ⟨hij,e9⟩
  ·cases z
  ·clear e
   obtain ⟨q,r,w⟩:=s.own j b x e9
   have hb:b≠a:=fun z=>by rw [z] at e9;exact hij (s.inj _ _ _ _ _ hi e9)
   exact⟨q,⟨r,hb⟩,bH.more (fun b z=>.inl (hM b z)) (bH.kp kp (by rw [aO hb]) w)⟩
 ·rcases a7 h1 with ⟨_,z,_⟩ | ⟨_,e1⟩
  ·cases z
  ·rcases a7 h2 with ⟨_,z,_⟩ | ⟨_,e2⟩
   ·cases z
   ·exact s.inj j k b x y e1 e2
end
def qc (i:Nat) (t:TDS):TDS:=fun R δ=>∃ a ks ds,δ[i]?=some (.own a (.dct ks ds))∧t R (δ.set i (.dat (.fd ks ds)))
theorem jm {X:Cx} (i:Nat) {st:List Stmt} {u:TDS} (h:DSs X st u):DSs X st (qc i u):=by
 rintro pins s σ H D I ⟨G,δ,P,R,⟨A,x⟩,⟨a,ks,ds,e,hu⟩,k⟩
 have hp:¬ G.M0 a:=fun z=>(x.new a (x.own i a _ e).2.1).elim (fun q=>x.m0 a z q) fun q=>(x.pm a q).2 z
 obtain ⟨si,ai,vs,hH,l,rs⟩:=x.own i a _ e
 obtain ⟨hz,lo,va,ra,da⟩:=uB I.hok hH
 obtain ⟨o,es,ep,ho,r9⟩:=id da
 obtain ⟨kvs,hH2,y⟩:=x.freezeF (o:=o) e hp
 rw [hH] at hH2
 cases hH2
 have I2:L2.Inv X pins σ (upd H a (.frz o (.dK (a4 ks vs)))) s:=I.write (x:=a) (e:=a) (t':=s.toks) (h':=s.heap) (by rw [hH];trivial) (.inl rfl) (fun b u _ q=>q) ⟨o,ho⟩ ⟨ho,hz,lo,va,ra,da⟩
 exact h pins s σ _ D I2 ⟨G,_,P,R,⟨_,y⟩,hu,k⟩
def Itd (a:Addr) (o:Obj) (ks:List Str):It :=
  ⟨fun i H=>i < ks.length∧∃ vs,vs.length=ks.length∧H a=some (.frz o (.dK (a4 ks vs))),
   fun i H v H'=>H'=H∧∃ x,ks[i]?=some x∧v=.str x,
   fun i H=>i=ks.length∧∃ vs,vs.length=ks.length∧H a=some (.frz o (.dK (a4 ks vs)))⟩
theorem sn {X:Cx} {pins:List (Addr×Obj)} {σ:L2.St} {H:Hp} {s:Shared} {a:Addr} {o:Obj} {ks:List Str} {vs:List V} {es:Array DictEntry} {ep:Nat} (I:L2.Inv X pins σ H s) (hd:o.data=.dict es ep) (hl:vs.length=ks.length) (e:H a=some (.frz o (.dK (a4 ks vs)))) :
  ∃ va,KV (a4 ks vs) va∧va.length=ks.length∧(a == sysModules)=false∧s.heap.DictAt (bh X.prog X.w) a va ep:=by
 obtain ⟨ho,hz,lo,va,ra,da⟩:=I.hok a _ e
 obtain ⟨ep',dt⟩:=da.dictAt
 obtain ⟨o',es',ho',r1,r2,r3⟩:=id dt
 rw [ho] at ho'
 cases ho'
 rw [hd] at r2
 cases r2
 refine⟨va,ra,?_,lo,dt⟩
 rw [← ra.length]
 unfold a4
 rw [List.length_zip,CK];omega
theorem sO {P:Program} {w:World} {K:PySem.W.Frag} {tg:Expr} {a it:Addr} {o:Obj} {ks:List Str} {es:Array DictEntry} {ep:Nat} (hd:o.data=.dict es ep):Turn P w K tg (Itd a o ks) [it] it (fun i h=>h.IsKeyIter it a i ks.length ep) where
 mem:=by simp
 obj:=fun i h st b hb=>by
  have e:b=it:=by simpa using hb
  subst e
  obtain ⟨o,ho,_,d⟩:=st
  exact⟨o,ho,fun v=>by rw [d];nofun⟩
 keep:=fun i h h' st k=>st.at fun o e=>k it (by simp) o e
 item:=by
  intro X hP hw hK hc i pins s σ H E I hf st hg
  subst hP hw hK
  obtain ⟨f0,f1,f2,f3,f4,f5⟩:=hf it (by simp)
  obtain ⟨hi,vs,hl,e⟩:=hg
  obtain ⟨va,ra,lv,lo,dt⟩:=sn I hd hl e
  rw [← lv] at st
  obtain ⟨⟨k,v⟩,hx⟩:∃ p,va[i]?=some p:=⟨va[i]'(by omega),by simp [show i < va.length by omega]⟩
  obtain ⟨⟨k2,v2⟩,q1,z1,_⟩:=kh ra hx
  obtain ⟨x,rfl,kx,_⟩:=mW q1
  simp only at z1
  subst z1
  refine wpAny_pyNext_dict_item st dt hx fun key h' hkey hit' sb=>⟨_,rfl,?_⟩
  rw [lv] at hit'
  obtain ⟨oi,ho,hoc,hod⟩:=id hit'
  have I1:Inv X pins σ H { s with heap:=h' }:=I.turned (t':=s.toks) (fun b o hb e=>sb.extBut b o hb e) f0 f1 f3 f4 f5
  have hkey:Value.isStrOf x key=true:=hkey
  obtain ⟨t,rfl⟩:=Value.isStrOf_shape hkey
  exact ri (s:={ s with heap:=h' }) (n:="dict_keyiterator") ho hoc hod (by decide) ⟨.str x,H,I1,⟨t,rfl⟩,⟨rfl,x,kx,rfl⟩,hit',fun b hb=>(hf b hb).1⟩
 done:=by
  intro X hP hw hK hc i pins s σ H E I hf st hg
  subst hP hw hK
  obtain ⟨f0,f1,f2,f3,f4,f5⟩:=hf it (by simp)
  obtain ⟨hi,vs,hl,e⟩:=hg
  obtain ⟨va,ra,lv,lo,dt⟩:=sn I hd hl e
  rw [← lv] at st
  exact wpAny_pyNext_dict_end (I.ok.hd hc) st dt (by simp;omega) fun h' eb=>⟨rfl,I.turned (t':=s.toks) (fun b o hb e=>eb b o hb e) f0 f1 f3 f4 f5⟩
 self:=fun _ _ _ _ _ st h=>wpAny_pyIter_keyiter st h
section
variable {X:Cx} {tg e:Expr} {te:TDE}
def Cy (te:TE):TI:=fun σ H R=>te σ H fun x H1=>∃ a o ks vs,x=.ref a∧vs.length=ks.length∧H1 a=some (.frz o (.dK (a4 ks vs)))∧R (Itd a o ks) H1
theorem yN {te:TE} (he:PE X e te):PI X tg e (Cy te):=by
 intro pins s σ H R I h
 refine thn (he pins s σ H _ I h) fun v s1 h_0=>?_
 obtain ⟨x,H1,I1,r1,q1⟩:=h_0
 obtain ⟨a,o,ks,vs,rfl,hl,e1,q⟩:=q1
 cases r1
 obtain ⟨ho,hz,lo,va0,ra0,da⟩:=I1.hok a _ e1
 obtain ⟨o',es,ep,ho',r1,r2,r3⟩:=id da
 rw [ho] at ho'
 cases ho'
 obtain ⟨va,ra,lv,lo,dt⟩:=sn I1 r2 hl e1
 refine wpAny_pyIter_dict lo dt ?_
 refine⟨s1.heap.objs.size,[s1.heap.objs.size],_,_,H1,rfl,I1.kept (t':=s1.toks) fun b o e=>CO _ e,sO r2,⟨_,Da _ rfl,rfl,by rw [lv];rfl⟩,fun b hb=>?_,q⟩
 have e:b=s1.heap.objs.size:=by simpa using hb
 subst e
 exact I1.fpOk (Nat.le_refl _) (I1.hok.fresh (Nat.le_refl _))
def Aq (t:TDE):TDC:=fun δ R=>t δ (wd fun d δ1=>∃ ks ds,d=.fd ks ds∧R (ks.map D.str) δ1)
theorem AN (h:DE X e te):CI X tg e (Aq te):=⟨_,yN h,fun G δ P σ H R Q s hs k=>up.mk s hs fun d δ1 h1 v H1 s1=>by
 obtain ⟨ks,ds,e,r⟩:=h1
 subst e
 have hat:∀ A δ σ H,Sx X.K G A δ ((.fd ks ds,v) :: P) σ H→∃ a vs o,v=.ref a∧vs.length=ks.length∧H a=some (.frz o (.dK (a4 ks vs))):=fun A δ σ H x=>by
  have q:=x.pnd (.fd ks ds,v) (by simp)
  unfold Rep at q
  obtain ⟨a,vs,o,e,q,l,r⟩:=q
  exact⟨a,vs,o,e,by rw [l,Reps.length _ _ r],q⟩
 obtain ⟨A1,x1⟩:=id s1
 obtain ⟨a,vs0,o,rfl,l0,e0⟩:=hat _ _ _ _ x1
 have p0:Rep X.K (fun b=>G.M0 b∨A1 b) H1 (.fo o ks ds) (.ref a):=by
  have q:=x1.pnd (.fd ks ds,.ref a) (by simp)
  unfold Rep at q ⊢
  obtain ⟨a',vs,o',e,q,l,r⟩:=q
  cases e
  rw [e0] at q
  have hq:o=o'∧a4 ks vs0=a4 ks vs:=by
   have q:=Option.some.inj q
   injection q with q1 q2
   injection q2 with q2
   exact⟨q1,q2⟩
  exact⟨a,vs,rfl,by rw [e0,hq.2],l,r⟩
 have hat2:∀ A δ σ H,Sx X.K G A δ ((.fo o ks ds,.ref a) :: P) σ H→∃ vs,vs.length=ks.length∧H a=some (.frz o (.dK (a4 ks vs))):=fun A δ σ H x=>by
  have q:=x.pnd (.fo o ks ds,.ref a) (by simp)
  unfold Rep at q
  obtain ⟨a',vs,e,q,l,r⟩:=q
  cases e
  exact⟨vs,by rw [l,Reps.length _ _ r],q⟩
 refine⟨a,o,ks,vs0,rfl,l0,e0,k _ δ1 r _ ((.fo o ks ds,.ref a) :: P) H1 (fun q hq=>by simp [hq]) ⟨A1,(x1.sub (P':=P) fun q hq=>by simp [hq]).push p0⟩ (fun A δ σ i H x hi=>?_) (fun A δ σ H x=>?_) fun A δ σ i y H H2 x hi hy=>?_⟩
 ·exact⟨by simpa using hi,hat2 _ _ _ _ x⟩
 ·exact⟨by simp,hat2 _ _ _ _ x⟩
 ·obtain ⟨rfl,x',hx',rfl⟩:=hy
  exact⟨Same.refl _,.str x',by rw [C0,hx'];rfl,by unfold Rep;rfl⟩⟩
end
end DL
namespace DL
open PySem PySem.Spec PyProof.Rows L2
section
variable {X:Cx} {pos:Pos} {e:Expr}
end
section
variable {X:Cx} {pos:Pos} {e:Expr} {ta:TDE}
end
section
variable {P:Program} {w:World} {K:PySem.W.Frag} {mg:Str→Option Value} {base:Heap}
end
def fEqf:List D→(D→Prop)→Prop
 | [.int i,.int j],R=>R (.bl (decide (i=j)))
 | [.str x,.str y],R=>R (.bl (decide (x=y)))
 | [.bl x,.bl y],R=>R (.bl (decide (x=y)))
 | [.tup xs,.tup ys],R=>∃ a b c d,xs=[.int a,.int b]∧ys=[.int c,.int d]∧R (.bl (decide ((a,b)=(c,d))))
 | _,_=>False
theorem wM {d0:List D} {R:D→Prop} (h:fEqf d0 R):(∃ (i:Int) (j:Int),d0=[.int i,.int j]∧R (.bl (decide (i=j))))∨(∃ (x:Str) (y:Str),d0=[.str x,.str y]∧R (.bl (decide (x=y))))∨(∃ (x:Bool) (y:Bool),d0=[.bl x,.bl y]∧R (.bl (decide (x=y))))∨(∃ (xs:List D) (ys:List D),d0=[.tup xs,.tup ys]∧∃ a b c d,xs=[.int a,.int b]∧ys=[.int c,.int d]∧R (.bl (decide ((a,b)=(c,d))))):=by
 rcases d0 with _ | ⟨a,_ | ⟨b,_ | ⟨c,l⟩⟩⟩
 ·exact False.elim h
 ·cases a<;>exact False.elim h
 ·cases a<;>first | exact False.elim h | (cases b<;>first | exact False.elim h | exact .inl ⟨_,_,rfl,h⟩ | exact .inr (.inl ⟨_,_,rfl,h⟩) | exact .inr (.inr (.inl ⟨_,_,rfl,h⟩)) | exact .inr (.inr (.inr ⟨_,_,rfl,h⟩)))
 ·cases a<;>first | exact False.elim h | (cases b<;>exact False.elim h)
theorem w6 {a b c d:Int} {R:D→Prop}:fEqf [.tup [.int a,.int b],.tup [.int c,.int d]] R↔R (.bl (decide ((a,b)=(c,d)))):=by
 constructor
 ·intro h
  obtain ⟨_,_,_,_,e,e',h⟩:=h
  cases e
  cases e'
  exact h
 ·exact fun h=>⟨_,_,_,_,rfl,rfl,h⟩
theorem ui {i j:Int} {R:D→Prop}:fEqf [.int i,.int j] R↔R (.bl (decide (i=j))):=Iff.rfl
theorem ym {i j:Bool} {R:D→Prop}:fEqf [.bl i,.bl j] R↔R (.bl (decide (i=j))):=Iff.rfl
theorem uS {i j:Str} {R:D→Prop}:fEqf [.str i,.str j] R↔R (.bl (decide (i=j))):=Iff.rfl
section
variable {X:Cx}
theorem yt (hu:X.A.units + 64 < cLine):OpR X (compareOp .Eq) fun x y=>a6 X.K fEqf [x,y]:=by
 intro pins s σ H x y v u Q I rx ry h
 obtain ⟨M,ds,R,m,rs,h,k⟩:=h
 replace h:=wM h
 rcases h with ⟨_,_,rfl,h⟩ | ⟨_,_,rfl,h⟩ | ⟨_,_,rfl,h⟩ | ⟨_,_,rfl,h⟩
 ·exact o_eq hu pins s σ H x y v u Q I rx ry ⟨M,_,R,m,rs,h,k⟩
 ·exact o_eq hu pins s σ H x y v u Q I rx ry ⟨M,_,R,m,rs,h,k⟩
 ·exact o_eq hu pins s σ H x y v u Q I rx ry ⟨M,_,R,m,rs,h,k⟩
 ·obtain ⟨i1,i2,j1,j2,rfl,rfl,h⟩:=h
  obtain ⟨h1,h2⟩:=cK rs
  unfold Rep at h1 h2
  obtain ⟨a,vs,rfl,sq,rs1⟩:=h1
  obtain ⟨b,ws,rfl,sq',rs2⟩:=h2
  cases rx
  cases ry
  obtain ⟨v1,v2,rfl,p1,p2⟩:=kX rs1
  obtain ⟨w1,w2,rfl,p3,p4⟩:=kX rs2
  cases aT p1
  cases aT p2
  cases aT p3
  cases aT p4
  obtain ⟨its,r1,t1,_⟩:=I.tuple sq
  obtain ⟨its',r2,t2,_⟩:=I.tuple sq'
  cases r1 with
  | cons q1 r1 =>
   cases r1 with
   | cons q2 r1 =>
    cases r1
    obtain ⟨s1,rfl⟩:=q1
    obtain ⟨s2,rfl⟩:=q2
    cases r2 with
    | cons q3 r2 =>
     cases r2 with
     | cons q4 r2 =>
      cases r2
      obtain ⟨s3,rfl⟩:=q3
      obtain ⟨s4,rfl⟩:=q4
      refine SeqAt.eq_tupleAt (e:=fun n=>if n=0 then i1 == j1 else i2 == j2) t1 t2 (by omega) (fun n h1 h2=>?_) ?_
      ·match n,h1 with
       | 0,_=>exact SeqAt.EqAt.int_int i1 s1 j1 s3
       | 1,_=>exact SeqAt.EqAt.int_int i2 s2 j2 s4
      ·refine⟨.bl _,H,I,rfl,?_⟩
       have e1:((List.range (min [Value.int i1 s1,Value.int i2 s2].toArray.size [Value.int j1 s3,Value.int j2 s4].toArray.size)).all (fun n=>if n=0 then i1 == j1 else i2 == j2) && [Value.int i1 s1,Value.int i2 s2].toArray.size == [Value.int j1 s3,Value.int j2 s4].toArray.size)=decide ((i1,i2)=(j1,j2)):=by
        show ((i1 == j1) && ((i2 == j2) && true) && true)=_
        rw [Bool.eq_iff_iff]
        simp
       rw [e1]
       exact k _ h _ H (Same.refl H) (Rep.sc rfl)
end
end DL
namespace DL
open PySem PySem.Spec PyProof.Rows L2
section
variable {X:Cx}
end
end DL
namespace DL
open PySem PySem.Spec PyProof.Rows L2
def wG (i:Nat) (f:List D→(D→Prop)→Prop) (ta tb:TDE):TDE:=fun δ R=>ta δ (wd fun x δ1=>tb δ1 (wd fun y δ2=>∃ a d,δ2[i]?=some (.own a d)∧f [x,y,d] fun r=>r.im=true∧R (.d r) δ2))
theorem ve {X:Cx} {a b:Expr} {ta tb:TDE} {f:List D→(D→Prop)→Prop} {x y:Str} {k:Nat} {ps:List Str} {p p2 pos:Pos} (i:Nat) (C:Cal X.prog X.w X.K X.mg X.base k x ps (spD X.K f)) (hr:Room k X.A) (hg:Gl X x) (ha:DE X a ta) (hb:DE X b tb) (hN:X.N[i]?=some y:=by rfl)
  (hv:Vis X.env.scope y:=by walk_at "v3") (hd:(y == ("__debug__":Str))=false:=by decide) (hcd:(y == ("__classdict__":Str))=false:=by decide)
  (hdb:(x == ("__debug__":Str))=false:=by decide) (he:starEach [a,b,.Name y p2] X.env=(false,eval a X.env) :: starEach [b,.Name y p2] X.env:=by rfl) (he1:starEach [b,.Name y p2] X.env=(false,eval b X.env) :: starEach [.Name y p2] X.env:=by rfl)
  (he2:starEach [.Name y p2] X.env=(false,eval (.Name y p2) X.env) :: starEach [] X.env:=by rfl) (hpl:(backTo pos (starEach [b,.Name y p2] X.env)).any (·.1)=false:=by rfl) :
  DE X (.Call (.Name x p) [a,b,.Name y p2] [] pos) (wG i f ta tb):=by
 obtain ⟨g,fd,F,b',kp,m⟩:=C.ex
 refine PE.imp (ki F hr hg m kp b' .nil uk (bQ ha (bQ hb (bQ (eA hN hv hd hcd) eR he2) he1) he) hdb he hpl) fun σ H Q ⟨G,δ,P,R,s,h,k,_⟩=>up.mk s h fun z δ1 h1 v H1 s1=>up.mk s1 h1 fun z2 δ2 ⟨a0,d0,hi,hf⟩ v2 H2 s2=>⟨.ref a0,s2.own hi,?_⟩
 show a6 X.K f ([v,v2,.ref a0]++[]) H2 Q
 rw [List.append_nil]
 obtain ⟨A,q⟩:=s2
 obtain ⟨_,aa,oo⟩:=q.own i a0 d0 hi
 have hM:∀ b,((G.M0 b∨A b)∧b≠a0)→(G.M0 b∨A b)∨H2 b=none:=fun b h=>.inl h.1
 refine⟨fun b=>(G.M0 b∨A b)∧b≠a0,[z,z2,d0],fun r=>r.im=true∧R (.d r) δ2,fun b h=>q.mem b h.1,Reps.cons (Rep.more hM _ _ (q.pnd (z,v) (by simp))) (Reps.cons (Rep.more hM _ _ (q.pnd (z2,v2) (by simp))) (Reps.one (oo.rep (fun z=>z.2 rfl) fun b z=>z.1))),hf,fun r ⟨im,hr⟩ u H' sm rp=>?_⟩
 exact k r δ2 hr u H' ⟨A,((q.same sm).sub (P':=P) fun p hp=>by simp [hp]).push (Rep.im _ _ im rp)⟩
theorem Sx.slot {K:PySem.W.Frag} {G:Gf} {A:Addr→Prop} {δ:List Sl} {P P':List (D×V)} {σ:L2.St} {H:Hp} {i:Nat} {p:Addr} {d:D} (s:Sx K G A δ P σ H) (aa:A p) (oo:bH K (fun b=>G.M0 b∨A b) H p d) (hno:∀ (j:Nat) e,δ[j]?≠some (.own p e)) (hP:∀ q∈P',q∈P) :
  Sx K G A (δ.set i (.own p d)) P' (σ.set i (some (.ref p))) H:=by
 refine⟨s.old,s.stay,s.m0,s.pm,s.new,s.thr,by rw [List.length_set,List.length_set,s.len],fun j d' e=>?_,fun j b d' e=>?_,fun j k b d' e' h1 h2=>?_,fun q hq=>s.pnd q (hP q hq)⟩
 ·rcases a7 e with ⟨_,z,_⟩ | ⟨hij,e⟩
  ·cases z
  ·obtain ⟨v,q,r⟩:=s.dat j d' e
   exact⟨v,by rw [List.getElem?_set_ne hij];exact q,r⟩
 ·rcases a7 e with ⟨hij,z,hl⟩ | ⟨hij,e⟩
  ·cases z
   subst hij
   exact⟨by rw [List.getElem?_set_self (by rw [← s.len];exact hl)],aa,oo⟩
  ·obtain ⟨q,r,o⟩:=s.own j b d' e
   exact⟨by rw [List.getElem?_set_ne hij];exact q,r,o⟩
 ·rcases a7 h1 with ⟨hij,z,hl⟩ | ⟨hij,e⟩
  ·cases z
   rcases a7 h2 with ⟨hik,_,_⟩ | ⟨hik,e2⟩
   ·rw [← hij,← hik]
   ·exact absurd e2 (hno k _)
  ·rcases a7 h2 with ⟨hik,z,_⟩ | ⟨hik,e2⟩
   ·cases z
    exact absurd e (hno j _)
   ·exact s.inj j k b d' e' e e2
def wa (i:Nat) (src:TDC) (nt:Nat) (caps:List (Nat×Str)) (g:TDG) (tc:TDT) (te:TDE):TDS:=fun R δ=>src δ fun xs δ1=>xs.length≤9000∧∃ f:D→Option D,
 (∀ x∈xs,allT nt fun ts=>g x (ts++capL caps δ1) fun δ2=>tc δ2 fun b δ3=>if b=true then te δ3 (wd fun y δ4=>okT nt δ4 (capL caps δ1)∧f x=some y) else okT nt δ3 (capL caps δ1)∧f x=none)∧∀ a,R.nx (δ1.set i (.own a (.lst (xs.filterMap f))))
theorem vn {X:Cx} {elt tgt iter:Expr} {ifs:List Expr} {scope:Scope} {pos pos2 pos':Pos} {src:TDC} {cl:List (Str×Addr)} {te:TDE} (i:Nat) {y:Str} (hN:X.N.Nodup) (tn:List Str) (caps:List (Nat×Str)) {g:TDG} {tc:TDT}
  (hcalm:X.calm=true) (hclos:closureFor scope X.env=pure cl) (hcell:∀ y∈scope.names,y.2≠.cell) (hkind:scope.kind=.function) (hnames:∀ y∈scope.names,y.2=.local→scope.names.lookup y.1=some .local)
  (hcl:∀ x c,cl.lookup x=some c→X.env.cells.lookup x=some c) (hhas:∀ x,((relabel scope X.env).names.lookup x=some .cell∨(relabel scope X.env).names.lookup x=some .free)→∃ c,cl.lookup x=some c)
  (hcap:∀ p∈caps,X.N[p.1]?=some p.2∧X.env.scope.names.lookup p.2=some .cell∧((relabel scope X.env).names.lookup p.2=some .cell∨(relabel scope X.env).names.lookup p.2=some .free))
  (hi:CI X.nox tgt iter src)
  (hb:∀ s2 H2 C fp pn,DG (dM X (tn++caps.map (·.2)) scope cl s2 H2 C fp pn) tgt g∧DF (dM X (tn++caps.map (·.2)) scope cl s2 H2 C fp pn) ifs tc∧DE (dM X (tn++caps.map (·.2)) scope cl s2 H2 C fp pn) elt te)
  (hs:∀ x,foldedSetIterable iter X.env x=pure x:=by intro _;rfl) (hi':X.N[i]?=some y:=by rfl) (hx:Loc X.env.scope y:=by walk_at "v2")
  (hsw:swapsWith (.ListComp elt [⟨tgt,iter,ifs,0⟩] scope pos) (some (.Name y pos')) pos2.line X.env=pure true:=by rfl) (hf:X.fn y=true∨X.env.scope.names.lookup y=some .local :=by walk_at "v1") :
  DS X.nox (.Assign [.Name y pos'] (.ListComp elt [⟨tgt,iter,ifs,0⟩] scope pos) pos2) (wa i src tn.length caps g tc te):=by
 obtain ⟨wi,hi,hw⟩:=hi
 refine PS.imp (oH (g:=upG X.K g) (tc:=upT X.K tc) (te:=up X.K te) tn caps hcalm hclos hcell hkind hnames hcl hhas hcap hi hb hs hN hi' hx hsw hf) fun E σ H h_0=>?_
 obtain ⟨G,δ,P,R,s,h,k,_⟩:=h_0
 refine hw G δ P σ H _ _ s h fun xs δ1 ⟨hz,f,hf,r⟩ J P1 H1 hP s1 hgo hst hyl p hp=>?_
 refine jV (Q:=fun x H1=>sV i x σ H1 E.nx) s1 hz (fun A i H x hi=>hgo A _ _ i H x hi) (fun A H x=>hst A _ _ H x) (fun A i x H H2 s hi hy=>hyl A _ _ i x H H2 s hi hy) hf p hp fun A acc H' hA ho x hac rs=>?_
 exact k _ (r p) _ H' ⟨_,x.slot (P':=P) (.inr rfl) ⟨acc,hac,rs⟩ (fun j e z=>hA (.inr (ho j p e z))) hP⟩
theorem eK {X:Cx} {elt tgt iter:Expr} {ifs:List Expr} {scope:Scope} {pos pos2 pos':Pos} {src:TDC} {cl:List (Str×Addr)} {te:TDE} (i:Nat) {y:Str} (hN:X.N.Nodup) (tn:List Str) (caps:List (Nat×Str)) {g:TDG} {tc:TDT}
  (hcalm:X.calm=true) (hclos:closureFor scope X.env=pure cl) (hcell:∀ y∈scope.names,y.2≠.cell) (hkind:scope.kind=.function) (hnames:∀ y∈scope.names,y.2=.local→scope.names.lookup y.1=some .local)
  (hcl:∀ x c,cl.lookup x=some c→X.env.cells.lookup x=some c) (hhas:∀ x,((relabel scope X.env).names.lookup x=some .cell∨(relabel scope X.env).names.lookup x=some .free)→∃ c,cl.lookup x=some c)
  (hcap:∀ p∈caps,X.N[p.1]?=some p.2∧X.env.scope.names.lookup p.2=some .cell∧((relabel scope X.env).names.lookup p.2=some .cell∨(relabel scope X.env).names.lookup p.2=some .free))
  (hi:CI X.nox tgt iter src)
  (hb:∀ s2 H2 C fp pn,DG (dM X (tn++caps.map (·.2)) scope cl s2 H2 C fp pn) tgt g∧DF (dM X (tn++caps.map (·.2)) scope cl s2 H2 C fp pn) ifs tc∧DE (dM X (tn++caps.map (·.2)) scope cl s2 H2 C fp pn) elt te)
  (hs:∀ x,foldedSetIterable iter X.env x=pure x:=by intro _;rfl) (hi':X.N[i]?=some y:=by rfl) (hx:Loc X.env.scope y:=by walk_at "v2")
  (hsw:swapsWith (.ListComp elt [⟨tgt,iter,ifs,0⟩] scope pos) (some (.Name y pos')) pos2.line X.env=pure true:=by rfl) (hf:X.fn y=true∨X.env.scope.names.lookup y=some .local :=by walk_at "v1") :
  DS X.nox (.Assign [.Name y pos'] (.ListComp elt [⟨tgt,iter,ifs,0⟩] scope pos) pos2) (dSet i (xE src tn.length caps g tc te)):=by
 obtain ⟨wi,hi,hw⟩:=hi
 refine PS.imp (oH (g:=upG X.K g) (tc:=upT X.K tc) (te:=up X.K te) tn caps hcalm hclos hcell hkind hnames hcl hhas hcap hi hb hs hN hi' hx hsw hf) fun E σ H h_0=>?_
 obtain ⟨G,δ,P,R,s,h,k,_⟩:=h_0
 refine hw G δ P σ H _ _ s h fun xs δ1 ⟨hz,f,hf,r⟩ J P1 H1 hP s1 hgo hst hyl p hp=>?_
 exact lX (Q:=fun x H1=>sV i x σ H1 E.nx) s1 hz (fun A i H x hi=>hgo A _ _ i H x hi) (fun A H x=>hst A _ _ H x) (fun A i x H H2 s hi hy=>hyl A _ _ i x H H2 s hi hy) hf (fun v H' s'=>k _ r _ H' ((s'.sub (P':=(.lst (xs.filterMap f),v) :: P) fun q hq=>by
  rcases CQ.mp hq with rfl | hq
  ·simp
  ·exact CL _ (hP q hq)).set (by simp) fun p hp=>by simp [hp])) p hp
section
variable {X:Cx} {tg e:Expr} {te:TDE}
def iSeq (K:PySem.W.Frag) (tl:TE):TI:=fun σ H R=>tl σ H fun x H1=>(∃ a,x=.ref a∧(∃ xs,SqL K H1 a xs)∧R (Itl K a) H1)∨∃ a,x=.ref a∧(∃ xs,SqT K H1 a xs)∧R (Itt K a) H1
theorem Bu {l:Expr} {tl:TE} (hl:PE X l tl):PI X tg l (iSeq X.K tl):=by
 intro pins s σ H R I h
 refine thn (hl pins s σ H _ I h) fun v s1 h_0=>?_
 obtain ⟨x,H1,I1,r1,q1⟩:=h_0
 rcases q1 with ⟨a,e,⟨xs,hq⟩,q⟩ | ⟨a,e,⟨xs,hq⟩,q⟩
 ·subst e
  cases r1
  obtain ⟨its,rv,p,hz⟩:=I1.list hq
  refine wpAny_pyIter_list p.isList ?_
  refine⟨s1.heap.objs.size,[s1.heap.objs.size],_,_,H1,rfl,I1.kept (t':=s1.toks) fun b o e=>CO _ e,lI a _,⟨_,Da _ rfl,rfl,rfl⟩,fun b hb=>?_,q⟩
  have e:b=s1.heap.objs.size:=by simpa using hb
  subst e
  exact I1.fpOk (Nat.le_refl _) (I1.hok.fresh (Nat.le_refl _))
 ·subst e
  cases r1
  obtain ⟨its,rv,p,hz⟩:=I1.tuple hq
  refine wpAny_pyIter_tuple p ?_
  refine⟨s1.heap.objs.size,[s1.heap.objs.size],_,_,H1,rfl,I1.kept (t':=s1.toks) fun b o e=>CO _ e,jP a _,⟨_,Da _ rfl,rfl,rfl⟩,fun b hb=>?_,q⟩
  have e:b=s1.heap.objs.size:=by simpa using hb
  subst e
  exact I1.fpOk (Nat.le_refl _) (I1.hok.fresh (Nat.le_refl _))
def dcSq (t:TDE):TDC:=fun δ R=>t δ (wd fun d δ1=>∃ k xs,d=sq k xs∧R xs δ1)
theorem Ct (h:DE X e te):CI X tg e (dcSq te):=⟨_,Bu h,fun G δ P σ H R Q s hs k=>up.mk s hs fun d δ1 h1 v H1 s1=>by
 obtain ⟨kk,xs,e,r⟩:=h1
 subst e
 have hat:∀ A δ σ H,Sx X.K G A δ ((sq kk xs,v) :: P) σ H→∃ a vs,v=.ref a∧SqV kk X.K H a vs∧Reps X.K (fun b=>G.M0 b∨A b) H xs vs:=fun A δ σ H x=>sH (x.pnd (sq kk xs,v) (by simp))
 obtain ⟨A1,x1⟩:=id s1
 obtain ⟨a,vs0,rfl,l0,_⟩:=hat _ _ _ _ x1
 cases kk
 ·refine .inr ⟨a,rfl,⟨vs0,l0⟩,k xs δ1 r _ _ H1 (fun q hq=>by simp [hq]) s1 (fun A δ σ i H x hi=>?_) (fun A δ σ H x=>?_) fun A δ σ i y H H2 x hi hy=>?_⟩
  ·obtain ⟨b,vs,e,l,r⟩:=hat _ _ _ _ x
   cases e
   obtain ⟨w',hw,_⟩:=Reps.get _ _ r i xs[i] (by simp [hi])
   exact⟨vs,w',l,hw⟩
  ·obtain ⟨b,vs,e,l,r⟩:=hat _ _ _ _ x
   cases e
   exact⟨vs,l,by rw [Reps.length _ _ r];exact Nat.le_refl _⟩
  ·obtain ⟨b,vs,e,l,r⟩:=hat _ _ _ _ x
   cases e
   obtain ⟨e,hy⟩:=hy
   obtain ⟨w',hw,rw'⟩:=Reps.get _ _ r i xs[i] (by simp [hi])
   have z:=hy vs l
   rw [hw] at z
   cases z
   subst e
   exact⟨Same.refl _,xs[i],by simp [hi],rw'⟩
 ·refine .inl ⟨a,rfl,⟨vs0,l0⟩,k xs δ1 r _ _ H1 (fun q hq=>by simp [hq]) s1 (fun A δ σ i H x hi=>?_) (fun A δ σ H x=>?_) fun A δ σ i y H H2 x hi hy=>?_⟩
  ·obtain ⟨b,vs,e,l,r⟩:=hat _ _ _ _ x
   cases e
   obtain ⟨w',hw,_⟩:=Reps.get _ _ r i xs[i] (by simp [hi])
   exact⟨vs,w',l,hw⟩
  ·obtain ⟨b,vs,e,l,r⟩:=hat _ _ _ _ x
   cases e
   exact⟨vs,l,by rw [Reps.length _ _ r];exact Nat.le_refl _⟩
  ·obtain ⟨b,vs,e,l,r⟩:=hat _ _ _ _ x
   cases e
   obtain ⟨e,hy⟩:=hy
   obtain ⟨w',hw,rw'⟩:=Reps.get _ _ r i xs[i] (by simp [hi])
   have z:=hy vs l
   rw [hw] at z
   cases z
   subst e
   exact⟨Same.refl _,xs[i],by simp [hi],rw'⟩⟩
end
end DL
namespace DL
open PySem PySem.Spec PyProof.Rows L2
def Ag (i:Nat) (f:List D→(D→Prop)→Prop) (ta:TDE):TDE:=fun δ R=>∃ a d0,δ[i]?=some (.own a d0)∧ta δ (wd fun z δ1=>∃ d,δ1[i]?=some (.own a d)∧f [d,z] fun r=>r.im=true∧R (.d r) δ1)
theorem wK {X:Cx} {b:Expr} {tb:TDE} {f:List D→(D→Prop)→Prop} {x y:Str} {k:Nat} {ps:List Str} {p p2 pos:Pos} (i:Nat) (C:Cal X.prog X.w X.K X.mg X.base k x ps (spD X.K f)) (hr:Room k X.A) (hg:Gl X x) (hb:DE X b tb) (hN:X.N[i]?=some y:=by rfl)
  (hv:Vis X.env.scope y:=by walk_at "v3") (hd:(y == ("__debug__":Str))=false:=by decide) (hcd:(y == ("__classdict__":Str))=false:=by decide)
  (hdb:(x == ("__debug__":Str))=false:=by decide) (he:starEach [.Name y p2,b] X.env=(false,eval (.Name y p2) X.env) :: starEach [b] X.env:=by rfl) (he1:starEach [b] X.env=(false,eval b X.env) :: starEach [] X.env:=by rfl)
  (hpl:(backTo pos (starEach [b] X.env)).any (·.1)=false:=by rfl) :
  DE X (.Call (.Name x p) [.Name y p2,b] [] pos) (Ag i f tb):=by
 obtain ⟨g,fd,F,b',kp,m⟩:=C.ex
 refine PE.imp (ki F hr hg m kp b' .nil uk (bQ (eA hN hv hd hcd) (bQ hb eR he1) he) hdb he hpl) fun σ H Q ⟨G,δ,P,R,s,⟨a0,d00,hi0,h⟩,k,_⟩=>⟨.ref a0,s.own hi0,up.mk s h fun z δ1 ⟨d0,hi,hf⟩ v H1 s1=>?_⟩
 show a6 X.K f ([.ref a0,v]++[]) H1 Q
 rw [List.append_nil]
 obtain ⟨A,q⟩:=s1
 obtain ⟨_,aa,oo⟩:=q.own i a0 d0 hi
 have hM:∀ b,((G.M0 b∨A b)∧b≠a0)→(G.M0 b∨A b)∨H1 b=none:=fun b h=>.inl h.1
 refine⟨fun b=>(G.M0 b∨A b)∧b≠a0,[d0,z],fun r=>r.im=true∧R (.d r) δ1,fun b h=>q.mem b h.1,Reps.cons (oo.rep (fun z=>z.2 rfl) fun b z=>z.1) (Reps.one (Rep.more hM _ _ (q.pnd (z,v) (by simp)))),hf,fun r ⟨im,hr⟩ u H' sm rp=>?_⟩
 exact k r δ1 hr u H' ⟨A,((q.same sm).sub (P':=P) fun p hp=>by simp [hp]).push (Rep.im _ _ im rp)⟩
end DL
namespace DL
open PySem PySem.Spec PyProof.Rows L2
section
variable {X:Cx} {pos:Pos} {a b e:Expr} {ta tb:TDE}
theorem Cv:OpR X (binaryOp .LShift) fun x y=>a6 X.K (fI CPow fun i j=>.int (i * 2 ^ j.toNat)) [x,y]:=opI A8 (fun _ _=>rfl) fun _ _ h=>h
end
section
variable {K:PySem.W.Frag} {G:Gf} {A A':Addr→Prop} {δ δ':List Sl} {P P':List (D×V)} {σ σ':L2.St} {H H':Hp} {p:Addr}
theorem Sx.inner (s:Sx K G (fun b=>A b∨b=p) δ P σ H) (hp:¬ A p) (ho:∀ (i:Nat) a d,δ[i]?=some (.own a d)→A a):Sx K ⟨fun b=>G.M0 b∨b=p,H,A⟩ A δ P σ H:=by
 have hM:∀ b,((G.M0 b∨b=p)∨A b)→(G.M0 b∨(A b∨b=p))∨H b=none:=fun b h=>.inl (by
  rcases h with (h | h) | h
  ·exact .inl h
  ·exact .inr (.inr h)
  ·exact .inr (.inl h))
 refine⟨fun b o h _=>h,fun b h=>h,fun b h=>?_,fun b h=>⟨s.thr b (.inl h),?_⟩,fun b h=>.inr h,fun b h=>s.thr b (.inl h),s.len,fun i d e=>let ⟨v,q,r⟩:=s.dat i d e;⟨v,q,Rep.more hM _ _ r⟩,fun i a d e=>let ⟨q,_,o⟩:=s.own i a d e;⟨q,ho i a d e,bH.more hM o⟩,s.inj,fun q hq=>Rep.more hM _ _ (s.pnd q hq)⟩
 ·rcases h with h | h
  ·exact s.stay b (s.m0 b h)
  ·exact s.thr b (.inr h)
 ·rintro (z | z)
  ·rcases s.new b (.inl h) with q | q
   ·exact s.m0 b z q
   ·exact (s.pm b q).2 z
  ·exact hp (by rw [← z];exact h)
theorem Sx.outer (s:Sx K G (fun b=>A b∨b=p) δ P σ H) (h0:G.H0 p=none) (t:Sx K ⟨fun b=>G.M0 b∨b=p,H,A⟩ A' δ' P' σ' H'):Sx K G (fun b=>A' b∨b=p) δ' P' σ' H':=by
 have hM:∀ b,(G.M0 b∨(A' b∨b=p))→((G.M0 b∨b=p)∨A' b)∨H' b=none:=fun b h=>.inl (by
  rcases h with h | h | h
  ·exact .inl (.inl h)
  ·exact .inr h
  ·exact .inl (.inr h))
 refine⟨fun b o h hn=>t.old b o (s.old b o h hn) (fun z=>?_),fun b h=>t.stay b (s.stay b h),s.m0,s.pm,fun b h=>?_,fun b h=>?_,t.len,fun i d e=>let ⟨v,q,r⟩:=t.dat i d e;⟨v,q,Rep.more hM _ _ r⟩,fun i a d e=>let ⟨q,r,o⟩:=t.own i a d e;⟨q,.inl r,bH.more hM o⟩,t.inj,fun q hq=>Rep.more hM _ _ (t.pnd q hq)⟩
 ·rcases s.new b (.inl z) with q | q
  ·rw [q] at h;cases h
  ·exact hn q
 ·rcases h with h | h
  ·rcases t.new b h with q | q
   ·refine .inl ?_
    cases e:G.H0 b with
    | none=>rfl
    | some o=>exact absurd q (s.stay b (by rw [e];exact fun z=>nomatch z))
   ·exact s.new b (.inl q)
  ·exact .inl (by rw [h];exact h0)
 ·rcases h with h | h
  ·exact t.thr b h
  ·exact t.stay b (s.thr b (.inr h))
theorem Sx.pokeD {kvs kvs':List (Key×V)} (s:Sx K G A δ P σ H) (hp:A p) (hv:H p=some (.dK kvs)) (hno:∀ (i:Nat) d,δ[i]?≠some (.own p d)):Sx K G A δ P σ (upd H p (.dK kvs')):=by
 have hk:∀ b o,b≠p→H b=some o→upd H p (.dK kvs') b=some o:=fun b o n e=>by rw [aO n];exact e
 have kp:Kp (fun b=>G.M0 b∨A b) H (upd H p (.dK kvs')):=⟨fun b o e n=>hk b o (fun z=>n (.inr (by rw [z];exact hp))) e,fun b xs e=>hk b _ (fun z=>by rw [z,hv] at e;cases e) e,fun b o u e=>hk b _ (fun z=>by rw [z,hv] at e;cases e) e⟩
 have stay:∀ b,H b≠none→upd H p (.dK kvs') b≠none:=fun b e=>by
  by_cases z:b=p
  ·rw [z,aI];exact fun z=>nomatch z
  ·rw [aO z];exact e
 have na:∀ b o,G.H0 b=some o→¬ G.Pm b→b≠p:=fun b o e n z=>(s.new p hp).elim (fun q=>by rw [z] at e;rw [e] at q;cases q) fun q=>n (by rw [z];exact q)
 refine⟨fun b o e n=>hk b o (na b o e n) (s.old b o e n),fun b e=>stay b (s.stay b e),s.m0,s.pm,s.new,fun b e=>stay b (s.thr b e),s.len,fun i d e=>let ⟨v,q,r⟩:=s.dat i d e;⟨v,q,Rep.kp kp _ _ r⟩,fun i a d e=>?_,s.inj,fun q hq=>Rep.kp kp _ _ (s.pnd q hq)⟩
 obtain ⟨q,r,o⟩:=s.own i a d e
 have ne:a≠p:=fun z=>by subst z;exact hno i d e
 exact⟨q,r,bH.kp kp (by rw [aO ne]) o⟩
end
section
variable {X:Cx} {pos:Pos} {a b e:Expr} {ta tb:TDE}
def vV (i:Nat) (k l:Str) (ta tb:TDE):TDS:=fun R δ=>ta δ (wd fun x δ1=>tb δ1 (wd fun y δ2=>k≠l∧∀ a,R.nx (δ2.set i (.own a (.dct [k,l] [x,y])))))
theorem ux (i:Nat) {x k l:Str} {j1 j2} {p p1 p2 pos':Pos} (hN:X.N.Nodup) (ha:DE X a ta) (hb:DE X b tb) (hi:X.N[i]?=some x:=by rfl) (hx:Loc X.env.scope x:=by walk_at "v2")
  (hs:swapsWith (.Dict [some (.Constant (.str k) j1 p1),some (.Constant (.str l) j2 p2)] [a,b] p) (some (.Name x pos')) pos.line X.env=pure false:=by rfl)
  (hf:X.fn x=true∨X.env.scope.names.lookup x=some .local :=by walk_at "v1") :
  DS X (.Assign [.Name x pos'] (.Dict [some (.Constant (.str k) j1 p1),some (.Constant (.str l) j2 p2)] [a,b] p) pos) (vV i k l ta tb) :=
 PS.imp (lY hN hi hx (yC (oO rR ha (oO rR hb xu)) rfl rfl (fun z=>nomatch z) (by show 2≤15;decide)) hs hf) fun E σ H ⟨G,δ,P,R,⟨A,s⟩,h,kk,_⟩=>fun p hp=>by
  have nA:¬ A p:=fun z=>s.thr p z hp
  have h0:G.H0 p=none:=by
   cases q:G.H0 p with
   | none=>rfl
   | some o=>exact absurd hp (s.stay p (by rw [q];exact fun z=>nomatch z))
  have hg:upd H p (.dK []) p=some (.dK []):=aI
  have s1:=s.addA hp (aJ hp (.dK [])) (by rw [hg];exact fun z=>nomatch z)
  have sin:=s1.inner nA (fun i a d e=>(s.own i a d e).2.1)
  refine⟨_,δ,P,_,⟨A,sin⟩,h,fun xv δ1 r1 v H2 s2=>?_,fun i δ' r=>r.elim⟩
  refine⟨_,δ1,(xv,v) :: P,_,s2,r1,fun yv δ2 r2 u H3 s3=>?_,fun i δ' r=>r.elim⟩
  obtain ⟨ne,r2⟩:=r2
  obtain ⟨A3,x3⟩:=s3
  have e3:H3 p=some (.dK []):=x3.old p _ hg nA
  have n3:¬ A3 p:=fun z=>by
   rcases x3.new p z with q | q
   ·have q:upd H p (.dK []) p=none:=q
    rw [hg] at q;cases q
   ·exact nA q
  have hno:∀ (j:Nat) d,δ2[j]?≠some (.own p d):=fun j d e=>n3 (x3.own j p d e).2.1
  have x4:=s1.outer h0 x3
  have x5:=x4.pokeD (kvs':=a4 [k,l] [v,u]) (.inr rfl) e3 hno
  refine⟨e3,a4 [k,l] [v,u],rfl,by show 2≤15;decide,?_⟩
  have em:jY [] (a4 [k,l] [v,u])=a4 [k,l] [v,u]:=by
   show putK (putK [] (Sum.inr k) v) (Sum.inr l) u=[(Sum.inr k,v),(Sum.inr l,u)]
   unfold putK
   simp [ne]
  rw [em]
  refine kk _ (r2 p) _ _ ⟨_,x5.slot (P':=P) (.inr rfl) ⟨[v,u],aI,rfl,?_⟩ hno fun q hq=>CL _ (CL _ hq)⟩
  exact x5.reps [xv,yv] [v,u] rfl (fun q hq=>by
   rcases CQ.mp hq with rfl | hq
   ·exact CL _ (CP ..)
   ·rw [C2.mp hq];exact CP ..)
end
end DL
namespace DL
open PySem PySem.Spec PyProof.Rows L2
theorem FdK.fd {K:PySem.W.Frag} {x:Str} {st:Stmt} {h:Heap} {mg:Str→Option Value} {ps:List Str} (q:FdK K x st) (X:K.In h) (G:h.Ns mainGlobals mg)
  (b:∀ (kV doc pm:Value) (an:Option Addr) (cdv ct:Value) (us:List Value),us.length=ps.length→bindArgs (PySem.W.fnOf x x (cI st) (bI st) (am st) .none kV doc pm an cdv ct) ⟨us,[]⟩=pure (ps.zip us)):Fd K mg x st ps:=by
 obtain ⟨f,oc,od,an,sl,kV,dc,pm,cd,ct,a,l,c,k⟩:=q.ex
 have F:=v4 (st:=st) l c k
 exact⟨_,_,F,F.binds (ps:=ps) b,PySem.W.mg_of X G a⟩
theorem iw {α:Type} {l:List α} {n:Nat} (h:l.length=n + 1):∃ a r,l=a :: r∧r.length=n:=by
 cases l with
 | nil=>cases h
 | cons a r=>exact⟨a,r,rfl,Nat.succ.inj h⟩
theorem len1 {α:Type} {l:List α} (h:l.length=1):∃ a,l=[a]:=by
 obtain ⟨a,r,rfl,h1⟩:=iw h
 rw [List.eq_nil_of_length_eq_zero h1]
 exact⟨a,rfl⟩
theorem len2 {α:Type} {l:List α} (h:l.length=2):∃ a b,l=[a,b]:=by
 obtain ⟨a,r,rfl,h1⟩:=iw h
 obtain ⟨b,rfl⟩:=len1 h1
 exact⟨a,b,rfl⟩
theorem len3 {α:Type} {l:List α} (h:l.length=3):∃ a b c,l=[a,b,c]:=by
 obtain ⟨a,r,rfl,h1⟩:=iw h
 obtain ⟨b,c,rfl⟩:=len2 h1
 exact⟨a,b,c,rfl⟩
theorem len4 {α:Type} {l:List α} (h:l.length=4):∃ a b c d,l=[a,b,c,d]:=by
 obtain ⟨a,r,rfl,h1⟩:=iw h
 obtain ⟨b,c,d,rfl⟩:=len3 h1
 exact⟨a,b,c,d,rfl⟩
theorem FdK.fd1 {K:PySem.W.Frag} {x x1:Str} {st:Stmt} {h:Heap} {mg:Str→Option Value} (q:FdK K x st) (X:K.In h) (G:h.Ns mainGlobals mg)
  (b:∀ (kV doc pm:Value) (an:Option Addr) (cdv ct u1:Value),bindArgs (PySem.W.fnOf x x (cI st) (bI st) (am st) .none kV doc pm an cdv ct) ⟨[u1],[]⟩=pure [(x1,u1)]):Fd K mg x st [x1] :=
 q.fd X G fun kV doc pm an cdv ct us hl=>by
  obtain ⟨u1,rfl⟩:=len1 hl
  exact b kV doc pm an cdv ct u1
theorem FdK.fd2 {K:PySem.W.Frag} {x x1 x2:Str} {st:Stmt} {h:Heap} {mg:Str→Option Value} (q:FdK K x st) (X:K.In h) (G:h.Ns mainGlobals mg)
  (b:∀ (kV doc pm:Value) (an:Option Addr) (cdv ct u1 u2:Value),bindArgs (PySem.W.fnOf x x (cI st) (bI st) (am st) .none kV doc pm an cdv ct) ⟨[u1,u2],[]⟩=pure [(x1,u1),(x2,u2)]):Fd K mg x st [x1,x2] :=
 q.fd X G fun kV doc pm an cdv ct us hl=>by
  obtain ⟨u1,u2,rfl⟩:=len2 hl
  exact b kV doc pm an cdv ct u1 u2
theorem FdK.fd3 {K:PySem.W.Frag} {x x1 x2 x3:Str} {st:Stmt} {h:Heap} {mg:Str→Option Value} (q:FdK K x st) (X:K.In h) (G:h.Ns mainGlobals mg)
  (b:∀ (kV doc pm:Value) (an:Option Addr) (cdv ct u1 u2 u3:Value),bindArgs (PySem.W.fnOf x x (cI st) (bI st) (am st) .none kV doc pm an cdv ct) ⟨[u1,u2,u3],[]⟩=pure [(x1,u1),(x2,u2),(x3,u3)]):Fd K mg x st [x1,x2,x3] :=
 q.fd X G fun kV doc pm an cdv ct us hl=>by
  obtain ⟨u1,u2,u3,rfl⟩:=len3 hl
  exact b kV doc pm an cdv ct u1 u2 u3
theorem FdK.fd4 {K:PySem.W.Frag} {x x1 x2 x3 x4:Str} {st:Stmt} {h:Heap} {mg:Str→Option Value} (q:FdK K x st) (X:K.In h) (G:h.Ns mainGlobals mg)
  (b:∀ (kV doc pm:Value) (an:Option Addr) (cdv ct u1 u2 u3 u4:Value),bindArgs (PySem.W.fnOf x x (cI st) (bI st) (am st) .none kV doc pm an cdv ct) ⟨[u1,u2,u3,u4],[]⟩=pure [(x1,u1),(x2,u2),(x3,u3),(x4,u4)]):Fd K mg x st [x1,x2,x3,x4] :=
 q.fd X G fun kV doc pm an cdv ct us hl=>by
  obtain ⟨u1,u2,u3,u4,rfl⟩:=len4 hl
  exact b kV doc pm an cdv ct u1 u2 u3 u4
theorem rm {j k:Nat} {A:Around} (h:Room k A) (e:j≤k:=by decide):Room j A:=h.mono e
end DL
namespace Mf
abbrev V:=Nat→Rat
def dot:Nat→V→V→Rat
 | 0,_,_=>0
 | m + 1,c,w=>dot m c w + c m * w m
theorem dJ (c u v:V) (a b:Rat):∀ m,dot m c (fun i=>a * u i + b * v i)=a * dot m c u + b * dot m c v
 | 0=>by show (0:Rat)=a * 0 + b * 0;grind
 | m + 1=>by show dot m c _ + _=a * (dot m c u + _) + b * (dot m c v + _);rw [dJ c u v a b m];grind
theorem pG (e c w:V) (a b:Rat):∀ m,dot m (fun i=>a * e i + b * c i) w=a * dot m e w + b * dot m c w
 | 0=>by show (0:Rat)=a * 0 + b * 0;grind
 | m + 1=>by show dot m _ w + _=a * (dot m e w + _) + b * (dot m c w + _);rw [pG e c w a b m];grind
theorem iK {c w w':V}:∀ {m},(∀ i,i < m→w i=w' i)→dot m c w=dot m c w'
 | 0,_=>rfl
 | m + 1,h=>by show dot m c w + _=dot m c w' + _;rw [iK fun i hi=>h i (by omega),h m (by omega)]
def sz (m:Nat) (w:V):Nat:=((List.range m).filter fun i=>decide (w i≠0)).length
theorem fj (m:Nat) (w:V):sz (m + 1) w=sz m w + if w m=0 then 0 else 1:=by
 unfold sz
 rw [List.range_succ,List.filter_append,CW]
 by_cases h:w m=0<;>simp [h]
theorem vm {w w':V}:∀ (m:Nat),(∀ i,i < m→w' i≠0→w i≠0)→sz m w'≤sz m w
 | 0,_=>Nat.le_refl _
 | m + 1,h=>by
  rw [fj,fj]
  have:=vm m fun i hi=>h i (by omega)
  have:=h m (by omega)
  grind
theorem zf {w w':V} {q:Nat}:∀ (m:Nat),(∀ i,i < m→w' i≠0→w i≠0)→q < m→w q≠0→w' q=0→sz m w' < sz m w
 | 0,_,hq,_,_=>by omega
 | m + 1,h,hq,h1,h2=>by
  rw [fj,fj]
  have h3:=vm m fun i hi=>h i (by omega)
  have h4:=h m (by omega)
  by_cases e:q=m
  ·subst e;grind
  ·have:=zf m (fun i hi=>h i (by omega)) (by omega) h1 h2
   grind
variable {m:Nat} {st:Nat→Bool}
def sat (m:Nat) (st:Nat→Bool) (e w:V):Prop:=0 < dot m e w∨(dot m e w=0∧∀ i,i < m→0 < w i→st i=false)
theorem kM {e u v:V} {a b:Rat} (hu:sat m st e u) (hv:sat m st e v) (ha:0≤a) (hb:0≤b):sat m st e (fun i=>a * u i + b * v i):=by
 unfold sat
 rw [dJ]
 have hu0:0≤dot m e u:=by rcases hu with h | h<;>grind
 have hv0:0≤dot m e v:=by rcases hv with h | h<;>grind
 have h1:=Rat.mul_nonneg ha hu0
 have h2:=Rat.mul_nonneg hb hv0
 by_cases z:0 < a * dot m e u + b * dot m e v
 ·exact .inl z
 ·refine .inr ⟨by grind,fun i hi hw=>?_⟩
  have e1:a * dot m e u=0:=by grind
  have e2:b * dot m e v=0:=by grind
  have pos:0 < a * u i∨0 < b * v i:=by grind
  rcases pos with p | p
  ·have ha':0 < a:=by
    refine CS fun z=>?_
    have:a=0:=by grind
    rw [this] at p;grind
   have hu':0 < u i:=by
    refine CS fun z=>?_
    have:=Rat.mul_nonneg ha (b:=- u i) (by grind)
    grind
   rcases hu with h | h
   ·have:=Rat.mul_pos ha' h;grind
   ·exact h.2 i hi hu'
  ·have hb':0 < b:=by
    refine CS fun z=>?_
    have:b=0:=by grind
    rw [this] at p;grind
   have hv':0 < v i:=by
    refine CS fun z=>?_
    have:=Rat.mul_nonneg hb (b:=- v i) (by grind)
    grind
   rcases hv with h | h
   ·have:=Rat.mul_pos hb' h;grind
   ·exact h.2 i hi hv'
theorem d4 {e w w':V} (h:∀ i,i < m→w i=w' i) (s:sat m st e w):sat m st e w':=by
 unfold sat at s ⊢
 rw [← iK h]
 exact s.imp id fun ⟨h1,h2⟩=>⟨h1,fun i hi hp=>h2 i hi (by rw [h i hi];exact hp)⟩
theorem mt:∀ (cs:List V) (J:List Nat),J.Nodup→cs.length < J.length→∃ d:V,(∀ i,d i≠0→i∈J)∧(∃ i,d i≠0)∧∀ c∈cs,dot m c d=0
 | [],J,nd,h=>by
  cases J with
  | nil=>simp at h
  | cons j J=>exact⟨fun i=>if i=j then 1 else 0,fun i hi=>by by_cases e:i=j<;>simp_all,⟨j,by simp⟩,fun c hc=>nomatch hc⟩
 | c :: cs,J,nd,h=>by
  cases J with
  | nil=>simp at h
  | cons j J =>
   have h:cs.length + 1 < J.length + 1:=h
   obtain ⟨nj,ndJ⟩:=List.nodup_cons.mp nd
   obtain ⟨d1,a1,⟨i,hi⟩,b1⟩:=mt cs J ndJ (by omega)
   have him:=a1 i hi
   obtain ⟨d2,a2,⟨k,hk⟩,b2⟩:=mt cs ((j :: J).erase i) (nd.erase i) (by rw [List.length_erase_of_mem (CL _ him)];simpa using by omega)
   have hd2i:d2 i=0:=CS fun z=>((nd.mem_erase_iff).mp (a2 i z)).1 rfl
   by_cases e:dot m c d2=0
   ·refine⟨d2,fun i hi=>List.mem_of_mem_erase (a2 i hi),⟨k,hk⟩,fun c' hc'=>?_⟩
    rcases CQ.mp hc' with rfl | hc'
    ·exact e
    ·exact b2 c' hc'
   ·refine⟨fun i=>dot m c d2 * d1 i + (- dot m c d1) * d2 i,fun x hx=>?_,⟨i,?_⟩,fun c' hc'=>?_⟩
    ·by_cases z1:d1 x=0
     ·by_cases z2:d2 x=0
      ·refine absurd ?_ hx;show _ * d1 x + _ * d2 x=0;rw [z1,z2];grind
      ·exact List.mem_of_mem_erase (a2 x z2)
     ·exact CL _ (a1 x z1)
    ·show _ * d1 i + _ * d2 i≠0
     rw [hd2i]
     intro z
     have:dot m c d2 * d1 i=0:=by grind
     rcases Rat.mul_eq_zero.mp this with q | q
     ·exact e q
     ·exact hi q
    ·rw [dJ]
     rcases CQ.mp hc' with rfl | hc'
     ·grind
     ·rw [b1 c' hc',b2 c' hc'];grind
theorem yl {w d:V} (hw:∀ i,0≤w i) (hd:∀ i,d i≠0→0 < w i):∀ (J:List Nat),(∃ i∈J,0 < d i)→∃ t,0 < t∧(∀ i∈J,0≤w i - t * d i)∧∃ q∈J,0 < d q∧w q - t * d q=0
 | [],⟨i,hi,_⟩=>nomatch hi
 | j :: J,h=>by
  have one:∀ i,0 < d i→0 < w i / d i∧w i - (w i / d i) * d i=0:=fun i hi=>by
   have hwi:=hd i (by grind)
   exact⟨by rw [Rat.lt_div_iff hi];grind,by grind⟩
  by_cases hJ:∃ i∈J,0 < d i
  ·obtain ⟨t,t0,h1,q,hq,dq,eq⟩:=yl hw hd J hJ
   by_cases hj:0≤w j - t * d j
   ·refine⟨t,t0,fun i hi=>?_,q,CL _ hq,dq,eq⟩
    rcases CQ.mp hi with rfl | hi
    ·exact hj
    ·exact h1 i hi
   ·have dj:0 < d j:=by
     refine CS fun z=>hj ?_
     have:=Rat.mul_nonneg (a:=t) (b:=- d j) (by grind) (by grind)
     have:=hw j
     grind
    obtain ⟨o1,o2⟩:=one j dj
    have lt:w j / d j < t:=by
     refine CS fun z=>hj ?_
     have:=Rat.mul_nonneg (a:=w j / d j - t) (b:=d j) (by grind) (by grind)
     grind
    refine⟨w j / d j,o1,fun i hi=>?_,j,CP ..,dj,o2⟩
    rcases CQ.mp hi with rfl | hi
    ·grind
    ·by_cases di:0 < d i
     ·have:=h1 i hi
      have:=Rat.mul_nonneg (a:=t - w j / d j) (b:=d i) (by grind) (by grind)
      grind
     ·have:=Rat.mul_nonneg (a:=w j / d j) (b:=- d i) (by grind) (by grind)
      have:=hw i
      grind
  ·have dj:0 < d j:=by
    obtain ⟨i,hi,p⟩:=h
    rcases CQ.mp hi with rfl | hi
    ·exact p
    ·exact absurd ⟨i,hi,p⟩ hJ
   obtain ⟨o1,o2⟩:=one j dj
   refine⟨w j / d j,o1,fun i hi=>?_,j,CP ..,dj,o2⟩
   rcases CQ.mp hi with rfl | hi
   ·grind
   ·have di:¬ 0 < d i:=fun p=>hJ ⟨i,hi,p⟩
    have:=Rat.mul_nonneg (a:=w j / d j) (b:=- d i) (by grind) (by grind)
    have:=hw i
    grind
structure Nn (m:Nat) (w:V):Prop where
 pos:∀ i,0≤w i
 top:∀ i,m≤i→w i=0
structure Sub (m:Nat) (cs:List V) (w u:V):Prop where
 nn:Nn m u
 an:∀ c∈cs,dot m c u=0
 su:∀ i,u i≠0→w i≠0
 lt:sz m u < sz m w
theorem AV {cs:List V} {w d:V} {p:Nat} (hw:Nn m w) (ha:∀ c∈cs,dot m c w=0) (hd:∀ i,d i≠0→w i≠0) (da:∀ c∈cs,dot m c d=0) (hp:w p≠0) (dp:d p=0) (h:∃ i,0 < d i) :
  ∃ u v a b,0≤a∧0≤b∧(∀ i,w i=a * u i + b * v i)∧Sub m cs w u∧Sub m cs w v:=by
 have lt:∀ {i},w i≠0→i < m:=fun {i} h=>CS fun z=>h (hw.top i (by omega))
 have pos:∀ {i},w i≠0→0 < w i:=fun {i} h=>by have:=hw.pos i;grind
 have mk:∀ {x:V} {a b:Rat},0≤a→(∀ i,x i=a * w i + b * d i)→(∀ i,i < m→0≤x i)→(∃ q,w q≠0∧x q=0)→Sub m cs w x:=fun {x a b} ha0 hx h0 ⟨q,hq,xq⟩=>by
  have su:∀ i,x i≠0→w i≠0:=fun i hi z=>hi (by
   have:d i=0:=CS fun y=>hd i y z
   rw [hx i,z,this];grind)
  refine⟨⟨fun i=>?_,fun i hi=>CS fun z=>su i z (hw.top i hi)⟩,fun c hc=>?_,su,zf m (fun i _=>su i) (lt hq) hq xq⟩
  ·by_cases hi:i < m
   ·exact h0 i hi
   ·have:x i=0:=CS fun z=>su i z (hw.top i (by omega))
    rw [this];exact Rat.le_refl
  ·have:x=fun i=>a * w i + b * d i:=funext hx
   rw [this,dJ,ha c hc,da c hc];grind
 have hr:∀ {i},d i≠0→i∈List.range m:=fun {i} h=>List.mem_range.mpr (lt (hd i h))
 obtain ⟨i,hi⟩:=h
 obtain ⟨t,t0,h1,q,hq,dq,eq⟩:=yl hw.pos (fun i h=>pos (hd i h)) (List.range m) ⟨i,hr (by grind),hi⟩
 have s1:Sub m cs w (fun i=>w i - t * d i):=mk (a:=1) (b:=-t) (by grind) (fun i=>by grind) (fun i hi=>h1 i (List.mem_range.mpr hi)) ⟨q,hd q (by grind),eq⟩
 by_cases hn:∃ i,0 < - d i
 ·obtain ⟨k,hk⟩:=hn
  obtain ⟨t',t0',h1',q',hq',dq',eq'⟩:=yl (d:=fun i=>- d i) hw.pos (fun i h=>pos (hd i (by grind))) (List.range m) ⟨k,hr (by grind),hk⟩
  have s2:Sub m cs w (fun i=>w i - t' * - d i):=mk (a:=1) (b:=t') (by grind) (fun i=>by grind) (fun i hi=>h1' i (List.mem_range.mpr hi)) ⟨q',hd q' (by grind),eq'⟩
  have tt:t + t'≠0:=by grind
  have e1:0 < t' / (t + t'):=by rw [Rat.lt_div_iff (by grind)];grind
  have e2:0 < t / (t + t'):=by rw [Rat.lt_div_iff (by grind)];grind
  refine⟨_,_,t' / (t + t'),t / (t + t'),by grind,by grind,fun i=>?_,s1,s2⟩
  have e3:t' / (t + t') + t / (t + t')=1:=by grind
  have e4:t' / (t + t') * t=t / (t + t') * t':=by grind
  grind
 ·have s2:Sub m cs w d:=mk (a:=0) (b:=1) (by grind) (fun i=>by grind) (fun i hi=>CS fun z=>hn ⟨i,by grind⟩) ⟨p,hp,dp⟩
  exact⟨_,_,1,t,by grind,by grind,fun i=>by grind,s1,s2⟩
theorem split {cs:List V} {w:V} (hw:Nn m w) (ha:∀ c∈cs,dot m c w=0) (hz:cs.length + 1 < sz m w) :
  ∃ u v a b,0≤a∧0≤b∧(∀ i,w i=a * u i + b * v i)∧Sub m cs w u∧Sub m cs w v:=by
 have mem:∀ {i},i∈(List.range m).filter (fun i=>decide (w i≠0))↔i < m∧w i≠0:=by simp
 have nd:((List.range m).filter (fun i=>decide (w i≠0))).Nodup:=List.nodup_range.filter _
 unfold sz at hz
 generalize hJ:(List.range m).filter (fun i=>decide (w i≠0))=J at mem nd hz
 cases J with
 | nil=>simp at hz
 | cons p J =>
  obtain ⟨np,ndJ⟩:=List.nodup_cons.mp nd
  obtain ⟨d,h1,⟨i,hi⟩,h3⟩:=mt (m:=m) cs J ndJ (by simpa using hz)
  have hd:∀ i,d i≠0→w i≠0:=fun i h=>(mem.mp (CL _ (h1 i h))).2
  have dp:d p=0:=CS fun z=>np (h1 p z)
  have hp:=(mem.mp (CP ..:p∈p :: J)).2
  by_cases s:0 < d i
  ·exact AV hw ha hd h3 hp dp ⟨i,s⟩
  ·have e:(fun i=>- d i)=fun i=>(-1) * d i + 0 * d i:=by funext i;grind
   exact AV (d:=fun i=>- d i) hw ha (fun i h=>hd i (by grind)) (fun c hc=>by rw [e,dJ,h3 c hc];grind) hp (by rw [dp];grind) ⟨i,by grind⟩
def sat1 (v:Rat) (x:Rat×Rat×Bool):Prop:=0 < x.1 + v * x.2.1∨(x.1 + v * x.2.1=0∧x.2.2=false)
theorem maxL:∀ (l:List (Rat×Bool)),l≠[]→∃ x∈l,∀ y∈l,y.1 < x.1∨(y.1=x.1∧(y.2=true→x.2=true))
 | [],h=>absurd rfl h
 | z :: l,_=>by
  by_cases hl:l=[]
  ·subst hl
   exact⟨z,CP ..,fun y hy=>by rcases CQ.mp hy with rfl | h;exact .inr ⟨rfl,id⟩;cases h⟩
  ·obtain ⟨x,hx,h⟩:=maxL l hl
   by_cases c:z.1 < x.1∨(z.1=x.1∧(z.2=true→x.2=true))
   ·refine⟨x,CL _ hx,fun y hy=>?_⟩
    rcases CQ.mp hy with rfl | hy
    ·exact c
    ·exact h y hy
   ·refine⟨z,CP ..,fun y hy=>?_⟩
    rcases CQ.mp hy with rfl | hy
    ·exact .inr ⟨rfl,id⟩
    ·have:=h y hy
     cases hz2:z.2<;>cases hx2:x.2<;>grind
theorem Ak (L:List (Rat×Rat×Bool)) (hz:∀ x∈L,x.2.1=0→sat1 0 x)
  (hp:∀ l∈L,∀ h∈L,0 < l.2.1→h.2.1 < 0→0 < l.1 * (- h.2.1) + h.1 * l.2.1∨(l.1 * (- h.2.1) + h.1 * l.2.1=0∧l.2.2=false∧h.2.2=false)):∃ v,∀ x∈L,sat1 v x:=by
 have low:(∀ x∈L,¬ 0 < x.2.1)∨∃ l∈L,0 < l.2.1∧∀ x∈L,0 < x.2.1→-x.1 / x.2.1 < -l.1 / l.2.1∨(-x.1 / x.2.1=-l.1 / l.2.1∧(x.2.2=true→l.2.2=true)):=by
  by_cases h:(L.filter fun x=>decide (0 < x.2.1)).map (fun x=>(-x.1 / x.2.1,x.2.2))=[]
  ·refine .inl fun x hx hp=>?_
   rw [List.map_eq_nil_iff,List.filter_eq_nil_iff] at h
   exact h x hx (by simpa using hp)
  ·obtain ⟨y,hy,h⟩:=maxL _ h
   obtain ⟨l,hl,rfl⟩:=CM.mp hy
   obtain ⟨hl,hl2⟩:=C5.mp hl
   exact .inr ⟨l,hl,by simpa using hl2,fun x hx hp=>h _ (CM.mpr ⟨x,C5.mpr ⟨hx,by simpa using hp⟩,rfl⟩)⟩
 have high:(∀ x∈L,¬ x.2.1 < 0)∨∃ l∈L,l.2.1 < 0∧∀ x∈L,x.2.1 < 0→x.1 / x.2.1 < l.1 / l.2.1∨(x.1 / x.2.1=l.1 / l.2.1∧(x.2.2=true→l.2.2=true)):=by
  by_cases h:(L.filter fun x=>decide (x.2.1 < 0)).map (fun x=>(x.1 / x.2.1,x.2.2))=[]
  ·refine .inl fun x hx hp=>?_
   rw [List.map_eq_nil_iff,List.filter_eq_nil_iff] at h
   exact h x hx (by simpa using hp)
  ·obtain ⟨y,hy,h⟩:=maxL _ h
   obtain ⟨l,hl,rfl⟩:=CM.mp hy
   obtain ⟨hl,hl2⟩:=C5.mp hl
   exact .inr ⟨l,hl,by simpa using hl2,fun x hx hp=>h _ (CM.mpr ⟨x,C5.mpr ⟨hx,by simpa using hp⟩,rfl⟩)⟩
 have lo:∀ (x:Rat×Rat×Bool) (v:Rat),0 < x.2.1→(-x.1 / x.2.1 < v∨(-x.1 / x.2.1=v∧x.2.2=false))→sat1 v x:=fun x v hc h=>by
  have e:x.1=-((-x.1 / x.2.1) * x.2.1):=by grind
  rcases h with h | h
  ·have:=Rat.mul_pos (a:=v - (-x.1 / x.2.1)) (b:=x.2.1) (by grind) hc
   exact .inl (by grind)
  ·exact .inr ⟨by grind,h.2⟩
 have hi:∀ (x:Rat×Rat×Bool) (v:Rat),x.2.1 < 0→(x.1 / x.2.1 < -v∨(x.1 / x.2.1=-v∧x.2.2=false))→sat1 v x:=fun x v hc h=>by
  have e:x.1=(x.1 / x.2.1) * x.2.1:=by grind
  rcases h with h | h
  ·have:=Rat.mul_pos (a:=-v - (x.1 / x.2.1)) (b:=-x.2.1) (by grind) (by grind)
   exact .inl (by grind)
  ·exact .inr ⟨by grind,h.2⟩
 have ze:∀ (x:Rat×Rat×Bool) (v:Rat),x∈L→x.2.1=0→sat1 v x:=fun x v hx h=>by
  have:=hz x hx h
  unfold sat1 at this ⊢
  rw [h] at this ⊢
  grind
 have done:∀ v,(∀ x∈L,0 < x.2.1→sat1 v x)→(∀ x∈L,x.2.1 < 0→sat1 v x)→∃ v,∀ x∈L,sat1 v x:=fun v h1 h2=>⟨v,fun x hx=>by
  rcases (by grind:x.2.1 < 0∨x.2.1=0∨0 < x.2.1) with c | c | c
  ·exact h2 x hx c
  ·exact ze x v hx c
  ·exact h1 x hx c⟩
 rcases low with nl | ⟨l,hl,cl,tl⟩
 ·rcases high with nh | ⟨k,hk,ck,tk⟩
  ·exact done 0 (fun x hx h=>absurd h (nl x hx)) fun x hx h=>absurd h (nh x hx)
  ·exact done (-(k.1 / k.2.1) - 1) (fun x hx h=>absurd h (nl x hx)) fun x hx h=>hi x _ h (.inl (by have:=tk x hx h;grind))
 ·rcases high with nh | ⟨k,hk,ck,tk⟩
  ·exact done (-l.1 / l.2.1 + 1) (fun x hx h=>lo x _ h (.inl (by have:=tl x hx h;grind))) fun x hx h=>absurd h (nh x hx)
  ·have pr:=hp l hl k hk cl ck
   have e1:l.1=-((-l.1 / l.2.1) * l.2.1):=by grind
   have e2:k.1=(k.1 / k.2.1) * k.2.1:=by grind
   generalize hA:-l.1 / l.2.1=A at *
   generalize hB:k.1 / k.2.1=B at *
   have pr2:A < -B∨(A=-B∧l.2.2=false∧k.2.2=false):=by
    have e3:l.1 * (-k.2.1) + k.1 * l.2.1=(-B - A) * (l.2.1 * (-k.2.1)):=by grind
    have pp:=Rat.mul_pos (a:=l.2.1) (b:=-k.2.1) cl (by grind)
    rw [e3] at pr
    rcases pr with p | p
    ·refine .inl (CS fun z=>?_)
     have:=Rat.mul_nonneg (a:=A + B) (b:=l.2.1 * -k.2.1) (by grind) (by grind)
     grind
    ·rcases Rat.mul_eq_zero.mp p.1 with q | q
     ·exact .inr ⟨by grind,p.2⟩
     ·grind
   refine done ((A - B) / 2) (fun x hx h=>lo x _ h ?_) fun x hx h=>hi x _ h ?_
   ·have:=tl x hx h
    cases hx2:x.2.2<;>cases hl2:l.2.2<;>grind
   ·have:=tk x hx h
    cases hx2:x.2.2<;>cases hk2:k.2.2<;>grind
def Comp (m:Nat) (st:Nat→Bool) (cs:List V) (S:List V):Prop:=∀ (I:Nat→Prop) (e:V),(∀ s∈S,(∀ i,s i≠0→I i)→sat m st e s)→∀ w,Nn m w→(∀ c∈cs,dot m c w=0)→(∀ i,w i≠0→I i)→sat m st e w
def unit (j:Nat):V:=fun i=>if i=j then 1 else 0
theorem oG {e w:V} (h:∀ i,i < m→w i=0):sat m st e w:=by
 have:dot m e w=0:=by
  rw [iK (w':=fun i=>0 * w i + 0 * w i) fun i hi=>by rw [h i hi];grind,dJ];grind
 exact .inr ⟨this,fun i hi hp=>by rw [h i hi] at hp;grind⟩
theorem rD (S:List V) (h:∀ j,j < m→unit j∈S):Comp m st [] S:=by
 intro I e hs w hw _ hI
 have go:∀ k,k≤m→sat m st e (fun i=>if i < k then w i else 0):=fun k=>by
  induction k with
  | zero=>intro _;exact oG fun i _=>by simp
  | succ k ih =>
   intro hk
   have h1:=ih (by omega)
   by_cases z:w k=0
   ·refine d4 (fun i hi=>?_) h1
    by_cases e1:i < k
    ·simp [e1,Nat.lt_succ_of_lt e1]
    ·by_cases e2:i=k
     ·subst e2;simp [z]
     ·simp [e1,show ¬ i < k + 1 by omega]
   ·have h2:=hs (unit k) (h k (by omega)) fun i hi=>by
     have:i=k:=CS fun y=>hi (by simp [unit,y])
     subst this;exact hI i z
    refine d4 (fun i hi=>?_) (kM h1 h2 (a:=1) (b:=w k) (by grind) (hw.pos k))
    unfold unit
    by_cases e1:i < k
    ·simp [e1,Nat.lt_succ_of_lt e1,show i≠k by omega];grind
    ·by_cases e2:i=k
     ·subst e2;simp;grind
     ·simp [e1,e2,show ¬ i < k + 1 by omega];grind
 exact d4 (fun i hi=>by simp [hi]) (go m (Nat.le_refl m))
structure Kept (m:Nat) (c:V) (most:Nat) (S S':List V):Prop where
 nn:∀ s∈S,Nn m s
 zero:∀ s∈S,dot m c s=0→s∈S'
 cross:∀ l∈S,∀ h∈S,0 < dot m c l→dot m c h < 0→sz m (fun i=>(- dot m c h) * l i + dot m c l * h i)≤most→∃ u∈S',∃ g,0 < g∧∀ i,g * u i=(- dot m c h) * l i + dot m c l * h i
theorem sy (e c w:V) (v:Rat):sat m st (fun i=>1 * e i + v * c i) w↔(0 < dot m e w + v * dot m c w∨(dot m e w + v * dot m c w=0∧∀ i,i < m→0 < w i→st i=false)):=by
 unfold sat
 rw [pG]
 have:1 * dot m e w + v * dot m c w=dot m e w + v * dot m c w:=by grind
 rw [this]
open Classical in
theorem tZ {cs S S':List V} {c:V} (k:Comp m st cs S) (h:Kept m c (cs.length + 2) S S'):Comp m st (c :: cs) S':=by
 intro I e hs w hw ha hI
 have main:∀ n w,sz m w≤n→Nn m w→(∀ c'∈c :: cs,dot m c' w=0)→(∀ i,w i≠0→I i)→sat m st e w:=fun n=>by
  induction n with
  | zero =>
   intro w hz hw _ _
   refine oG fun i hi=>byContradiction fun z=>?_
   have:=zf (w:=w) (w':=fun _=>0) m (fun i _ h=>absurd rfl h) hi z rfl
   omega
  | succ n ih =>
   intro w hz hw ha hI
   by_cases big:(c :: cs).length + 1 < sz m w
   ·obtain ⟨u,v,a,b,a0,b0,hwe,su,sv⟩:=split hw ha big
    have h1:=ih u (by have:=su.lt;omega) su.nn su.an fun i hi=>hI i (su.su i hi)
    have h2:=ih v (by have:=sv.lt;omega) sv.nn sv.an fun i hi=>hI i (sv.su i hi)
    exact d4 (fun i _=>(hwe i).symm) (kM h1 h2 a0 b0)
   ·have big:sz m w≤cs.length + 2:=by simp at big;omega
    have pr:∀ l∈S,∀ k∈S,(∀ i,l i≠0→w i≠0)→(∀ i,k i≠0→w i≠0)→0 < dot m c l→dot m c k < 0→sat m st e (fun i=>(- dot m c k) * l i + dot m c l * k i):=fun l hl k hk sl sk cl ck=>by
     have su:∀ i,(- dot m c k) * l i + dot m c l * k i≠0→w i≠0:=fun i hi=>by
      by_cases z:l i=0
      ·by_cases y:k i=0
       ·refine absurd ?_ hi;rw [z,y];grind
       ·exact sk i y
      ·exact sl i z
     obtain ⟨u,hu,g,g0,eu⟩:=h.cross l hl k hk cl ck (CN (vm m fun i _=>su i) big)
     have hu2:=hs u hu fun i hi=>hI i (su i (by rw [← eu i];intro z;rcases Rat.mul_eq_zero.mp z with q | q;grind;exact hi q))
     exact d4 (fun i _=>by rw [← eu i];grind) (kM hu2 hu2 (a:=g) (b:=0) (by grind) (by grind))
    have od:=Ak ((S.filter fun s=>decide (∀ i,s i≠0→w i≠0)).map fun s=>(dot m e s,dot m c s,!decide (∀ i,i < m→0 < s i→st i=false)))
    have od1:=od fun x hx h0=>by
     obtain ⟨s,hs',rfl⟩:=CM.mp hx
     obtain ⟨hs',hsu⟩:=C5.mp hs'
     have:=hs s (h.zero s hs' h0) fun i hi=>hI i ((by simpa using hsu:∀ i,¬ s i=0→¬ w i=0) i hi)
     unfold sat at this
     unfold sat1
     have e0:dot m e s + 0 * dot m c s=dot m e s:=by grind
     simp only [e0]
     simpa using this
    have od2:=od1 fun l hl k hk cl ck=>by
     obtain ⟨l,hl',rfl⟩:=CM.mp hl
     obtain ⟨k',hk',rfl⟩:=CM.mp hk
     obtain ⟨hl',hlu⟩:=C5.mp hl'
     obtain ⟨hk',hku⟩:=C5.mp hk'
     have:=pr l hl' k' hk' (by simpa using hlu) (by simpa using hku) cl ck
     unfold sat at this
     rw [dJ] at this
     have e0:(- dot m c k') * dot m e l + dot m c l * dot m e k'=dot m e l * (- dot m c k') + dot m e k' * dot m c l:=by grind
     rw [e0] at this
     refine this.imp id fun ⟨h1,h2⟩=>⟨h1,?_,?_⟩
     ·simp only [Bool.not_eq_false',decide_eq_true_eq]
      intro i hi hp
      refine h2 i hi ?_
      have p1:=Rat.mul_pos (a:=- dot m c k') (b:=l i) (by grind) hp
      have p2:=Rat.mul_nonneg (a:=dot m c l) (b:=k' i) (by grind) ((h.nn k' hk').pos i)
      grind
     ·simp only [Bool.not_eq_false',decide_eq_true_eq]
      intro i hi hp
      refine h2 i hi ?_
      have p1:=Rat.mul_pos (a:=dot m c l) (b:=k' i) cl hp
      have p2:=Rat.mul_nonneg (a:=- dot m c k') (b:=l i) (by grind) ((h.nn l hl').pos i)
      grind
    obtain ⟨v,hv⟩:=od2
    have all:∀ s∈S,(∀ i,s i≠0→w i≠0)→sat m st (fun i=>1 * e i + v * c i) s:=fun s hs' hsu=>by
     have:=hv _ (CM.mpr ⟨s,C5.mpr ⟨hs',by simpa using hsu⟩,rfl⟩)
     rw [sy]
     unfold sat1 at this
     simpa using this
    have:=k (fun i=>w i≠0) _ all w hw (fun c' hc'=>ha c' (CL _ hc')) fun i hi=>hi
    rw [sy,ha c (CP ..)] at this
    unfold sat
    have e0:dot m e w + v * 0=dot m e w:=by grind
    rw [e0] at this
    exact this
 exact main _ w (Nat.le_refl _) hw ha hI
end Mf
namespace Mf
open PySem L2 DL
def sumR (x:Str→Rat):List (Str×Int)→Rat
 | []=>0
 | t :: r=>(t.2:Rat) * x t.1 + sumR x r
def soR (x:Str→Rat) (r:Rw):Prop:=match r.1 with
 | .least=>(r.2.2:Rat)≤sumR x r.2.1
 | .more=>(r.2.2:Rat) < sumR x r.2.1
def putR (x:Str→Rat) (n:Str) (v:Rat):Str→Rat:=fun k=>if k=n then v else x k
theorem py {x:Str→Rat} {n:Str} {v:Rat} (h:x n=0):∀ ts,sumR (putR x n v) ts=sumR x ts + v * (cf ts n:Int)
 | []=>by show (0:Rat)=0 + v * ((0:Int):Rat);rw [show ((0:Int):Rat)=0 from rfl];grind
 | t :: r=>by
  show (t.2:Rat) * putR x n v t.1 + sumR (putR x n v) r=(t.2:Rat) * x t.1 + sumR x r + v * (((if t.1=n then t.2 else 0) + cf r n:Int):Rat)
  rw [py h r,Dg]
  unfold putR
  by_cases e:t.1=n
  ·rw [if_pos e,if_pos e,e,h];grind
  ·rw [if_neg e,if_neg e,show ((0:Int):Rat)=0 from rfl];grind
def sumN (x:Str→Rat) (F:Str→Int):List Str→Rat
 | []=>0
 | n :: r=>(F n:Rat) * x n + sumN x F r
theorem kO {x:Str→Rat} {F G:Str→Int}:∀ nm:List Str,sumN x (fun n=>F n + G n) nm=sumN x F nm + sumN x G nm
 | []=>by show (0:Rat)=0 + 0;grind
 | n :: r=>by show ((F n + G n:Int):Rat) * x n + _=(F n:Rat) * x n + _ + ((G n:Rat) * x n + _);rw [kO r,Dg];grind
theorem o7 {x:Str→Rat} {F:Str→Int} {a:Int}:∀ nm:List Str,sumN x (fun n=>a * F n) nm=a * sumN x F nm
 | []=>by show (0:Rat)=a * 0;grind
 | n :: r=>by show ((a * F n:Int):Rat) * x n + _=a * ((F n:Rat) * x n + _);rw [o7 r,Df];grind
theorem eB {x:Str→Rat} {F:Str→Int}:∀ {nm:List Str},(∀ n∈nm,F n=0)→sumN x F nm=0
 | [],_=>rfl
 | n :: r,h=>by show (F n:Rat) * x n + _=0;rw [eB fun k hk=>h k (CL _ hk),h n (CP ..),show ((0:Int):Rat)=0 from rfl];grind
theorem pC {x:Str→Rat} {k:Str} {a:Int}:∀ {nm:List Str},nm.Nodup→k∈nm→sumN x (fun n=>if k=n then a else 0) nm=a * x k
 | n :: r,nd,h=>by
  obtain ⟨h1,h2⟩:=List.nodup_cons.mp nd
  show ((if k=n then a else 0:Int):Rat) * x n + sumN x _ r=_
  by_cases e:k=n
  ·subst e
   rw [if_pos rfl,eB (F:=fun n=>if k=n then a else 0) fun m hm=>if_neg fun (z:k=m)=>h1 (z ▸ hm)];grind
  ·rw [if_neg e,pC h2 ((CQ.mp h).resolve_left e),show ((0:Int):Rat)=0 from rfl];grind
theorem pk {x:Str→Rat} {nm:List Str} (nd:nm.Nodup):∀ {ts:List (Str×Int)},(∀ t∈ts,t.1∈nm)→sumR x ts=sumN x (cf ts) nm
 | [],_=>(eB fun _ _=>rfl).symm
 | t :: r,h=>by
  show _ + sumR x r=sumN x (fun n=>(if t.1=n then t.2 else 0) + cf r n) nm
  rw [kO,pC nd (h t (CP ..)),pk nd fun u hu=>h u (CL _ hu)]
theorem mn:∀ {ts:List (Str×Int)} {t:Str×Int},(ts.map (·.1)).Nodup→t∈ts→cf ts t.1=t.2
 | u :: r,t,nd,h=>by
  obtain ⟨h1,h2⟩:=List.nodup_cons.mp nd
  show (if u.1=t.1 then u.2 else 0) + cf r t.1=t.2
  rcases CQ.mp h with rfl | h
  ·rw [if_pos rfl,jl h1,Int.add_zero]
  ·rw [if_neg fun e=>h1 (CM.mpr ⟨t,h,e.symm⟩),mn h2 h,Int.zero_add]
theorem e8.cf {F:Str→Int} {us:List (Str×Int)} (h:e8 F us) (n:Str):cf us n=F n:=by
 by_cases e:n∈us.map (·.1)
 ·obtain ⟨t,ht,rfl⟩:=CM.mp e
  rw [mn h.nd ht,(h.val t ht).1]
 ·rw [jl e]
  exact (CS fun z=>e (h.all n fun y=>z y.symm))
def evl (x:Str→Rat):List (Rw×Int)→Rat
 | []=>0
 | p :: r=>(p.2:Rat) * (sumR x p.1.2.1 - (p.1.2.2:Int)) + evl x r
theorem pJ {x:Str→Rat} {nm:List Str} (nd:nm.Nodup):∀ {l:List (Rw×Int)},(∀ p∈l,∀ t∈p.1.2.1,t.1∈nm)→evl x l=sumN x (cfs l) nm - (bds l:Int)
 | [],_=>by
  show (0:Rat)=_ - ((0:Int):Rat)
  rw [eB (F:=cfs []) fun _ _=>rfl,show ((0:Int):Rat)=0 from rfl];grind
 | p :: r,h=>by
  show (p.2:Rat) * _ + evl x r=sumN x (fun n=>p.2 * cf p.1.2.1 n + cfs r n) nm - ((p.2 * p.1.2.2 + bds r:Int):Rat)
  rw [kO,o7,pJ nd fun q hq=>h q (CL _ hq),pk nd (h p (CP ..)),Dg,Df]
  grind
def smT (nm:List Str) (F:Str→Int):List (Str×Int):=(nm.filter fun n=>decide (F n≠0)).map fun n=>(n,F n)
def smR (nm:List Str) (rows:List Rw) (w:List Int):Rw:=(kOf (stc (rows.zip w)),smT nm (cfs (rows.zip w)),bds (rows.zip w))
structure Rws (nm:List Str) (rows:List Rw):Prop where
 pw:nm.Pairwise leS
 nd:nm.Nodup
 sum:∀ r∈rows,e8 (cf r.2.1) r.2.1
 sub:∀ r∈rows,∀ t∈r.2.1,t.1∈nm
theorem Rws.cfs {nm:List Str} {rows:List Rw} (h:Rws nm rows) {w:List Int} {n:Str} (e:cfs (rows.zip w) n≠0):n∈nm :=
 se (fun p hp=>h.sub p.1 (Di hp).1) e
theorem Rws.smT {nm:List Str} {rows:List Rw} (h:Rws nm rows) (w:List Int):e8 (Mf.cfs (rows.zip w)) (Mf.smT nm (Mf.cfs (rows.zip w))):=e8.mk' h.pw h.nd fun _ e=>h.cfs e
theorem sU {nm:List Str} {rows:List Rw} (h:Rws nm rows) {x:Str→Rat} {w:List Int}:soR x (smR nm rows w)↔(0 < evl x (rows.zip w)∨(evl x (rows.zip w)=0∧stc (rows.zip w)=false)):=by
 have e:=pJ (x:=x) h.nd (l:=rows.zip w) fun p hp=>h.sub p.1 (Di hp).1
 have e2:sumR x (Mf.smT nm (Mf.cfs (rows.zip w)))=sumN x (Mf.cfs (rows.zip w)) nm:=by
  rw [pk h.nd fun t ht=>?_]
  ·congr 1;exact funext fun n=>(h.smT w).cf n
  ·obtain ⟨n,hn,rfl⟩:=CM.mp ht
   exact (C5.mp hn).1
 rw [e]
 unfold soR smR
 cases stc (rows.zip w)
 ·show ((bds _:Int):Rat)≤sumR x _↔_
  rw [e2];grind
 ·show ((bds _:Int):Rat) < sumR x _↔_
  rw [e2];grind
def toV (w:List Int):V:=fun i=>((w.getD i 0:Int):Rat)
def eV (x:Str→Rat) (rows:List Rw):V:=fun i=>match rows[i]? with | some r=>sumR x r.2.1 - (r.2.2:Int) | none=>0
def colV (rows:List Rw) (n:Str):V:=fun i=>match rows[i]? with | some r=>((cf r.2.1 n:Int):Rat) | none=>0
def stV (rows:List Rw):Nat→Bool:=fun i=>match rows[i]? with | some r=>isM r.1 | none=>false
theorem jn (c w:V):∀ m,dot (m + 1) c w=c 0 * w 0 + dot m (fun i=>c (i + 1)) (fun i=>w (i + 1))
 | 0=>by show (0:Rat) + c 0 * w 0=c 0 * w 0 + 0;grind
 | m + 1=>by show dot (m + 1) c w + c (m + 1) * w (m + 1)=_ + (dot m _ _ + c (m + 1) * w (m + 1));rw [jn c w m];grind
theorem kZ {x:Str→Rat}:∀ {rows:List Rw} {w:List Int},w.length=rows.length→evl x (rows.zip w)=dot rows.length (eV x rows) (toV w)
 | [],[],_=>rfl
 | r :: rows,a :: w,h=>by
  rw [CZ,jn]
  show (a:Rat) * (sumR x r.2.1 - _) + evl x (rows.zip w)=(sumR x r.2.1 - _) * (a:Rat) + dot rows.length (eV x rows) (toV w)
  rw [kZ (by simpa using h)];grind
theorem kG {n:Str}:∀ {rows:List Rw} {w:List Int},w.length=rows.length→((cfs (rows.zip w) n:Int):Rat)=dot rows.length (colV rows n) (toV w)
 | [],[],_=>rfl
 | r :: rows,a :: w,h=>by
  rw [CZ,jn]
  show ((a * cf r.2.1 n + cfs (rows.zip w) n:Int):Rat)=((cf r.2.1 n:Int):Rat) * (a:Rat) + dot rows.length (colV rows n) (toV w)
  rw [Dg,Df,kG (by simpa using h)];grind
theorem tD {w:List Int} {i:Nat}:0 < toV w i↔0 < w.getD i 0:=Rat.intCast_pos
theorem pd:∀ {rows:List Rw} {w:List Int},w.length=rows.length→(stc (rows.zip w)=false↔∀ i,i < rows.length→0 < toV w i→stV rows i=false)
 | [],[],_=>⟨fun _ i hi=>absurd hi (Nat.not_lt_zero i),fun _=>rfl⟩
 | r :: rows,a :: w,h=>by
  have ih:=pd (rows:=rows) (w:=w) (by simpa using h)
  have e:stc ((r :: rows).zip (a :: w))=((isM r.1 && decide (0 < a)) || stc (rows.zip w)):=rfl
  rw [e,Bool.or_eq_false_iff,ih]
  constructor
  ·rintro ⟨h1,h2⟩ i hi hp
   cases i with
   | zero =>
    have:0 < a:=tD.mp hp
    rw [decide_eq_true this,Bool.and_true] at h1
    exact h1
   | succ i=>exact h2 i (by simpa using hi) hp
  ·intro hh
   refine⟨?_,fun i hi hp=>hh (i + 1) (by simpa using hi) hp⟩
   by_cases ha:0 < a
   ·have:isM r.1=false:=hh 0 (Nat.succ_pos _) (tD.mpr ha)
    rw [this,Bool.false_and]
   ·rw [decide_eq_false ha,Bool.and_false]
theorem zy {nm:List Str} {rows:List Rw} (h:Rws nm rows) {x:Str→Rat} {w:List Int} (hl:w.length=rows.length):soR x (smR nm rows w)↔sat rows.length (stV rows) (eV x rows) (toV w):=by
 rw [sU h,kZ hl,pd hl];rfl
theorem oV (w:V):∀ m,sz (m + 1) w=(if w 0=0 then 0 else 1) + sz m fun i=>w (i + 1)
 | 0=>by rw [fj];show sz 0 w + _=_ + sz 0 _;unfold sz;simp
 | m + 1=>by rw [fj,oV w m,fj m];omega
def usd (w:List Int):Nat:=(w.filter fun a=>decide (0 < a)).length
theorem wz:∀ {w:List Int},(∀ a∈w,0≤a)→sz w.length (toV w)=usd w
 | [],_=>rfl
 | a :: w,h=>by
  rw [CZ,oV]
  show (if ((a:Int):Rat)=0 then 0 else 1) + sz w.length (toV w)=usd (a :: w)
  rw [wz fun b hb=>h b (CL _ hb)]
  have h0:=h a (CP ..)
  unfold usd
  by_cases e:0 < a
  ·rw [Dc (by simpa using e),if_neg (fun z=>by have:a=0:=Rat.intCast_inj.mp z;omega),CZ];omega
  ·have:a=0:=by omega
   rw [Db (by simpa using e),if_pos (by rw [this];rfl)];omega
theorem tf {w:List Int} {m:Nat} (hl:w.length=m) (h:∀ a∈w,0≤a):Nn m (toV w):=by
 refine⟨fun i=>?_,fun i hi=>?_⟩
 ·show (0:Rat)≤((w.getD i 0:Int):Rat)
  refine Rat.intCast_nonneg.mpr ?_
  rw [List.getD_eq_getElem?_getD]
  cases e:w[i]? with
  | none=>exact Int.le_refl 0
  | some a=>exact h a (C1 e)
 ·show ((w.getD i 0:Int):Rat)=0
  rw [List.getD_eq_getElem?_getD,List.getElem?_eq_none (by omega)];rfl
end Mf
namespace Mf
open PySem L2 DL
def gW (ws:List Int):Int:=ws.foldl gc 0
theorem Cl (a b:Int):0≤gc a b∧gc a b ∣ a∧gc a b ∣ b∧(a≠0∨b≠0→gc a b≠0):=by
 refine⟨sI a b,fk a b,eo a b,fun h z=>?_⟩
 unfold gc at z
 have:=Int.gcd_eq_zero_iff.mp (by omega:Int.gcd a b=0)
 rcases h with h | h
 ·exact h this.1
 ·exact h this.2
theorem m8:∀ (ws:List Int) (a:Int),ws.foldl gc a ∣ a∧(∀ w∈ws,ws.foldl gc a ∣ w)∧((a≠0∨∃ w∈ws,w≠0)→ws.foldl gc a≠0)∧(0≤a→0≤ws.foldl gc a)
 | [],a=>⟨Int.dvd_refl a,fun _ h=>(nomatch h),fun h=>h.elim id fun h_0=>by obtain ⟨_,h,_⟩:=h_0;exact (nomatch h),id⟩
 | w :: ws,a=>by
  obtain ⟨h1,h2,h3,h4⟩:=m8 ws (gc a w)
  obtain ⟨g0,g1,g2,g3⟩:=Cl a w
  refine⟨Int.dvd_trans h1 g1,fun v hv=>?_,fun h=>h3 ?_,fun _=>h4 g0⟩
  ·rcases CQ.mp hv with rfl | hv
   ·exact Int.dvd_trans h1 g2
   ·exact h2 v hv
  ·rcases h with h | ⟨v,hv,hn⟩
   ·exact .inl (g3 (.inl h))
   ·rcases CQ.mp hv with rfl | hv
    ·exact .inl (g3 (.inr hn))
    ·exact .inr ⟨v,hv,hn⟩
theorem oC {ws:List Int} (h:∃ w∈ws,w≠0):0 < gW ws:=by
 obtain ⟨_,_,h3,h4⟩:=m8 ws 0
 have:=h3 (.inr h)
 have:=h4 (Int.le_refl 0)
 unfold gW
 omega
theorem ln {ws:List Int} {w:Int} (h:w∈ws):gW ws ∣ w:=(m8 ws 0).2.1 w h
def crS (rows:List Rw) (n:Str) (l h:List Int):List Int:=List.zipWith (fun a b=>a * -(cfs (rows.zip h) n) + b * cfs (rows.zip l) n) l h
def shW (ws:List Int):List Int:=ws.map fun a=>a.fdiv (gW ws)
def crW (rows:List Rw) (n:Str) (l h:List Int):List Int:=shW (crS rows n l h)
def woW (rows:List Rw) (n:Str) (most:Nat) (W:List (List Int)):List (List Int) :=
 (W.filter fun w=>decide (cfs (rows.zip w) n=0))++(W.filter fun w=>decide (0 < cfs (rows.zip w) n)).flatMap fun l =>
  ((W.filter fun w=>decide (cfs (rows.zip w) n < 0)).map (crW rows n l)).filter fun u=>decide (usd u≤most)
def unW (m j:Nat):List Int:=(List.range m).map fun i=>if i=j then 1 else 0
def unWs (m:Nat):List (List Int):=(List.range m).map (unW m)
def stW (rows:List Rw):List Str→List (List Int)
 | []=>unWs rows.length
 | n :: ns=>woW rows n (ns.length + 2) (stW rows ns)
structure Wt (m:Nat) (w:List Int):Prop where
 len:w.length=m
 nn:∀ a∈w,0≤a
 nz:∃ a∈w,a≠0
theorem nR {f:Int→Int→Int} (hf:f 0 0=0):∀ {l h:List Int},l.length=h.length→∀ i,toV (List.zipWith f l h) i=((f (l.getD i 0) (h.getD i 0):Int):Rat)
 | [],[],_,i=>by show (0:Rat)=((f 0 0:Int):Rat);rw [hf];rfl
 | a :: l,b :: h,e,0=>rfl
 | a :: l,b :: h,e,i + 1=>nR hf (by simpa using e) i
theorem nJ {n:Str} {a b:Int}:∀ {rows:List Rw} {l h:List Int},l.length=rows.length→h.length=rows.length→cfs (rows.zip (List.zipWith (fun x y=>x * a + y * b) l h)) n=a * cfs (rows.zip l) n + b * cfs (rows.zip h) n
 | [],[],[],_,_=>by show (0:Int)=a * 0 + b * 0;omega
 | r :: rows,x :: l,y :: h,h1,h2=>by
  show (x * a + y * b) * cf r.2.1 n + cfs (rows.zip (List.zipWith _ l h)) n=a * (x * cf r.2.1 n + cfs (rows.zip l) n) + b * (y * cf r.2.1 n + cfs (rows.zip h) n)
  rw [nJ (rows:=rows) (l:=l) (h:=h) (by simpa using h1) (by simpa using h2)];grind
theorem tE {ws:List Int} (hz:∃ w∈ws,w≠0):List.zipWith (fun x y=>x * gW ws + y * 0) (shW ws) (shW ws)=ws:=by
 unfold shW
 have:∀ (l:List Int),(∀ a∈l,gW ws ∣ a)→List.zipWith (fun x y=>x * gW ws + y * 0) (l.map fun a=>a.fdiv (gW ws)) (l.map fun a=>a.fdiv (gW ws))=l:=fun l=>by
  induction l with
  | nil=>intro _;rfl
  | cons a l ih =>
   intro h
   show (a.fdiv (gW ws) * gW ws + _ * 0) :: _=a :: l
   rw [ih fun b hb=>h b (CL _ hb),Int.fdiv_mul_cancel (h a (CP ..)),Int.mul_zero,Int.add_zero]
 exact this ws fun a ha=>ln ha
theorem mH {ws:List Int}:(shW ws).length=ws.length:=CK ..
theorem zt {rows:List Rw} {n:Str} {ws:List Int} (hl:ws.length=rows.length) (hz:∃ w∈ws,w≠0):gW ws * cfs (rows.zip (shW ws)) n=cfs (rows.zip ws) n:=by
 have e:=nJ (rows:=rows) (n:=n) (a:=gW ws) (b:=0) (l:=shW ws) (h:=shW ws) (by rw [mH,hl]) (by rw [mH,hl])
 rw [tE hz] at e
 rw [e];omega
theorem Af {ws:List Int} (hz:∃ w∈ws,w≠0) (i:Nat):((gW ws:Int):Rat) * toV (shW ws) i=toV ws i:=by
 have e:=nR (f:=fun x y=>x * gW ws + y * 0) (by omega) (l:=shW ws) (h:=shW ws) rfl i
 rw [tE hz] at e
 rw [e]
 show _ * ((_:Int):Rat)=_
 simp only [Int.mul_zero,Int.add_zero]
 rw [Df];grind
theorem CG {ws:List Int} (hz:∃ w∈ws,w≠0) (h:∀ a∈ws,0≤a):∀ a∈shW ws,0≤a:=fun a ha=>by
 obtain ⟨b,hb,rfl⟩:=CM.mp ha
 obtain ⟨c,hc⟩:=ln hb
 have g:=oC hz
 have hb0:=h b hb
 have e:b.fdiv (gW ws) * gW ws=b:=Int.fdiv_mul_cancel (ln hb)
 refine CS fun z=>?_
 have:=Int.mul_lt_mul_of_pos_right (show b.fdiv (gW ws) < 0 by omega) g
 omega
theorem Co {ws:List Int} (hz:∃ w∈ws,w≠0):∃ a∈shW ws,a≠0:=by
 obtain ⟨w,hw,hn⟩:=hz
 refine⟨_,CM.mpr ⟨w,hw,rfl⟩,fun z=>hn ?_⟩
 have e:w.fdiv (gW ws) * gW ws=w:=Int.fdiv_mul_cancel (ln hw)
 rw [z] at e;omega
theorem mv {rows:List Rw} {n:Str} {m:Nat} {l h:List Int} (hl:l.length=m) (hh:h.length=m):(crS rows n l h).length=m:=by unfold crS;rw [List.length_zipWith];omega
theorem Ab {a b:Int} (ha:0 < a) (hb:0 < b):∀ {l h:List Int},(∀ x∈l,0≤x)→(∀ x∈h,0≤x)→∀ x∈List.zipWith (fun x y=>x * a + y * b) l h,0≤x
 | [],_,_,_,x,hx=>by simp at hx
 | _ :: _,[],_,_,x,hx=>by simp at hx
 | u :: l,v :: h,h1,h2,x,hx=>by
  rw [List.zipWith_cons_cons] at hx
  rcases CQ.mp hx with rfl | hx
  ·have:=Int.mul_nonneg (h1 u (CP ..)) (Int.le_of_lt ha)
   have:=Int.mul_nonneg (h2 v (CP ..)) (Int.le_of_lt hb)
   omega
  ·exact Ab ha hb (fun x hx=>h1 x (CL _ hx)) (fun x hx=>h2 x (CL _ hx)) x hx
theorem zx {a b:Int} (ha:0 < a) (hb:0 < b):∀ {l h:List Int},l.length=h.length→(∀ x∈l,0≤x)→(∀ x∈h,0≤x)→(∃ x∈l,x≠0)→∃ x∈List.zipWith (fun x y=>x * a + y * b) l h,x≠0
 | [],_,_,_,_,⟨x,hx,_⟩=>by simp at hx
 | _ :: _,[],e,_,_,_=>by simp at e
 | u :: l,v :: h,e,h1,h2,⟨x,hx,hn⟩=>by
  rw [List.zipWith_cons_cons]
  rcases CQ.mp hx with rfl | hx
  ·refine⟨_,CP ..,fun z=>?_⟩
   have:=Int.mul_pos (a:=x) (b:=a) (by have:=h1 x (CP ..);omega) ha
   have:=Int.mul_nonneg (h2 v (CP ..)) (Int.le_of_lt hb)
   omega
  ·obtain ⟨y,hy,hy0⟩:=zx ha hb (by simpa using e) (fun x hx=>h1 x (CL _ hx)) (fun x hx=>h2 x (CL _ hx)) ⟨x,hx,hn⟩
   exact⟨y,CL _ hy,hy0⟩
section
variable {rows:List Rw} {n:Str} {l h:List Int}
theorem jN (wl:Wt rows.length l) (wh:Wt rows.length h) (cl:0 < cfs (rows.zip l) n) (ch:cfs (rows.zip h) n < 0):(∀ a∈crS rows n l h,0≤a)∧∃ a∈crS rows n l h,a≠0 :=
 ⟨Ab (by omega) cl wl.nn wh.nn,zx (by omega) cl (by rw [wl.len,wh.len]) wl.nn wh.nn wl.nz⟩
theorem rB (wl:Wt rows.length l) (wh:Wt rows.length h) (cl:0 < cfs (rows.zip l) n) (ch:cfs (rows.zip h) n < 0):Wt rows.length (crW rows n l h):=by
 obtain ⟨h1,h2⟩:=jN wl wh cl ch
 exact⟨by unfold crW;rw [mH];exact mv wl.len wh.len,CG h2 h1,Co h2⟩
theorem yw {k:Str} (wl:Wt rows.length l) (wh:Wt rows.length h) (cl:0 < cfs (rows.zip l) n) (ch:cfs (rows.zip h) n < 0):gW (crS rows n l h) * cfs (rows.zip (crW rows n l h)) k=-(cfs (rows.zip h) n) * cfs (rows.zip l) k + cfs (rows.zip l) n * cfs (rows.zip h) k:=by
 obtain ⟨h1,h2⟩:=jN wl wh cl ch
 unfold crW
 rw [zt (mv wl.len wh.len) h2]
 exact nJ (rows:=rows) wl.len wh.len
theorem ud (wl:Wt rows.length l) (wh:Wt rows.length h) (cl:0 < cfs (rows.zip l) n) (ch:cfs (rows.zip h) n < 0) (i:Nat):((gW (crS rows n l h):Int):Rat) * toV (crW rows n l h) i=-((cfs (rows.zip h) n:Int):Rat) * toV l i + ((cfs (rows.zip l) n:Int):Rat) * toV h i:=by
 obtain ⟨h1,h2⟩:=jN wl wh cl ch
 unfold crW
 rw [Af h2]
 unfold crS
 rw [nR (by omega) (by rw [wl.len,wh.len])]
 rw [Dg,Df,Df,Rat.intCast_neg]
 unfold toV
 grind
end
theorem iO {rows:List Rw} {n:Str} {most:Nat} {W:List (List Int)} {w:List Int}:w∈woW rows n most W↔(w∈W∧cfs (rows.zip w) n=0)∨∃ l∈W,0 < cfs (rows.zip l) n∧∃ h∈W,cfs (rows.zip h) n < 0∧w=crW rows n l h∧usd w≤most:=by
 unfold woW
 rw [CV,C5,List.mem_flatMap]
 refine or_congr (by simp) ?_
 constructor
 ·rintro ⟨l,hl,hm⟩
  obtain ⟨hl1,hl2⟩:=C5.mp hl
  obtain ⟨hm1,hm2⟩:=C5.mp hm
  obtain ⟨h,hh,rfl⟩:=CM.mp hm1
  obtain ⟨hh1,hh2⟩:=C5.mp hh
  exact⟨l,hl1,by simpa using hl2,h,hh1,by simpa using hh2,rfl,by simpa using hm2⟩
 ·rintro ⟨l,hl,cl,h,hh,ch,rfl,hu⟩
  exact⟨l,C5.mpr ⟨hl,by simpa using cl⟩,C5.mpr ⟨CM.mpr ⟨h,C5.mpr ⟨hh,by simpa using ch⟩,rfl⟩,by simpa using hu⟩⟩
theorem Aj {m j:Nat} (h:j < m):Wt m (unW m j):=by
 refine⟨by unfold unW;simp,fun a ha=>?_,1,?_,by decide⟩
 ·obtain ⟨i,_,rfl⟩:=CM.mp ha
  split<;>decide
 ·exact CM.mpr ⟨j,List.mem_range.mpr h,by simp⟩
theorem yd {m j:Nat} (h:j < m):toV (unW m j)=unit j:=by
 funext i
 unfold toV unW unit
 rw [List.getD_eq_getElem?_getD,C0]
 by_cases hi:i < m
 ·rw [List.getElem?_range hi]
  show (((if i=j then 1 else 0:Int)):Rat)=_
  by_cases e:i=j<;>simp [e]
 ·rw [List.getElem?_eq_none (by simpa using Nat.le_of_not_lt hi)]
  have:i≠j:=by omega
  simp [this]
theorem cL {rows:List Rw}:∀ {ns:List Str} {w:List Int},w∈stW rows ns→Wt rows.length w∧∀ n∈ns,cfs (rows.zip w) n=0
 | [],w,h=>by
  obtain ⟨j,hj,rfl⟩:=CM.mp h
  exact⟨Aj (List.mem_range.mp hj),fun _ h=>(nomatch h)⟩
 | n :: ns,w,h=>by
  rcases iO.mp h with ⟨h1,h2⟩ | ⟨l,hl,cl,k,hk,ck,rfl,_⟩
  ·obtain ⟨a,b⟩:=cL h1
   exact⟨a,fun x hx=>(CQ.mp hx).elim (fun e=>e ▸ h2) (b x)⟩
  ·obtain ⟨a,b⟩:=cL hl
   obtain ⟨a',b'⟩:=cL hk
   refine⟨rB a a' cl ck,fun x hx=>?_⟩
   have e:=yw (k:=x) a a' cl ck
   have g:=oC (jN a a' cl ck).2
   have:-(cfs (rows.zip k) n) * cfs (rows.zip l) x + cfs (rows.zip l) n * cfs (rows.zip k) x=0:=by
    rcases CQ.mp hx with rfl | hx
    ·grind
    ·rw [b x hx,b' x hx];omega
   rw [this] at e
   rcases Int.mul_eq_zero.mp e with z | z
   ·omega
   ·exact z
theorem vR {rows:List Rw} {n:Str} {ns:List Str}:Kept rows.length (colV rows n) (ns.length + 2) ((stW rows ns).map toV) ((stW rows (n :: ns)).map toV):=by
 have dt:∀ {w},w∈stW rows ns→dot rows.length (colV rows n) (toV w)=((cfs (rows.zip w) n:Int):Rat):=fun h=>(kG (cL h).1.len).symm
 constructor
 ·intro s hs
  obtain ⟨w,hw,rfl⟩:=CM.mp hs
  exact tf (cL hw).1.len (cL hw).1.nn
 ·intro s hs h0
  obtain ⟨w,hw,rfl⟩:=CM.mp hs
  rw [dt hw] at h0
  exact CM.mpr ⟨w,iO.mpr (.inl ⟨hw,Rat.intCast_inj.mp h0⟩),rfl⟩
 ·intro l hl h hh cl ch hz
  obtain ⟨l,hl2,rfl⟩:=CM.mp hl
  obtain ⟨h,hh2,rfl⟩:=CM.mp hh
  clear hl hh
  have hl:=hl2
  have hh:=hh2
  rw [dt hl] at cl hz ⊢
  rw [dt hh] at ch hz ⊢
  have cl:0 < cfs (rows.zip l) n:=Rat.intCast_pos.mp cl
  have ch:cfs (rows.zip h) n < 0:=Rat.intCast_neg_iff.mp ch
  have wl:=(cL hl).1
  have wh:=(cL hh).1
  have ww:=rB wl wh cl ch
  have g:=oC (jN wl wh cl ch).2
  have gr:(0:Rat) < ((gW (crS rows n l h):Int):Rat):=Rat.intCast_pos.mpr g
  refine⟨_,CM.mpr ⟨crW rows n l h,iO.mpr (.inr ⟨l,hl,cl,h,hh,ch,rfl,?_⟩),rfl⟩,_,gr,fun i=>ud wl wh cl ch i⟩
  rw [← wz ww.nn,ww.len]
  refine CN (vm _ fun i _ hi=>?_) hz
  rw [← ud wl wh cl ch i]
  intro z
  rcases Rat.mul_eq_zero.mp z with q | q
  ·grind
  ·exact hi q
theorem pQ {rows:List Rw}:∀ ns:List Str,Comp rows.length (stV rows) (ns.map (colV rows)) ((stW rows ns).map toV)
 | []=>rD _ fun j hj=>CM.mpr ⟨unW rows.length j,CM.mpr ⟨j,List.mem_range.mpr hj,rfl⟩,yd hj⟩
 | n :: ns=>tZ (pQ ns) (by rw [CK];exact vR)
end Mf
namespace Mf
open PySem L2 DL
def frR (p:Int×Int):Rat:=(p.1:Rat) / (p.2:Rat)
theorem gn {a:Int} (h:a≠0):((a:Int):Rat)≠0:=fun z=>h (Rat.intCast_inj.mp z)
theorem fT {a:Int} (h:0 < a):(0:Rat) < ((a:Int):Rat):=Rat.intCast_pos.mpr h
theorem i7 (t:Int) {b:Int} (h:b≠0):frR (mkT t b,mkB t b)=(t:Rat) / (b:Rat):=by
 have c:=oX t b
 have hB:=(eU t h).ne
 have c2:((mkT t b:Int):Rat) * (b:Rat)=(t:Rat) * ((mkB t b:Int):Rat):=by rw [← Df,← Df,c]
 have h1:=gn h
 have h2:=gn hB
 show ((mkT t b:Int):Rat) / ((mkB t b:Int):Rat)=_
 grind
theorem iF {p q:Int×Int} (hp:0 < p.2) (hq:0 < q.2):frR p < frR q↔p.1 * q.2 < q.1 * p.2:=by
 have h1:=fT hp
 have h2:=fT hq
 have h3:=Rat.mul_pos h1 h2
 have e1:frR p * ((p.2:Rat) * (q.2:Rat))=((p.1 * q.2:Int):Rat):=by rw [Df];unfold frR;grind
 have e2:frR q * ((p.2:Rat) * (q.2:Rat))=((q.1 * p.2:Int):Rat):=by rw [Df];unfold frR;grind
 rw [← Rat.intCast_lt_intCast,← e1,← e2]
 constructor
 ·intro h
  have:=Rat.mul_pos (a:=frR q - frR p) (by grind) h3
  grind
 ·intro h
  refine CS fun z=>?_
  have:=Rat.mul_nonneg (a:=frR p - frR q) (b:=(p.2:Rat) * (q.2:Rat)) (by grind) (by grind)
  grind
theorem tL {p q:Int×Int} (hp:Low p.1 p.2) (hq:Low q.1 q.2) (e:frR p=frR q):p=q:=by
 have h1:¬ p.1 * q.2 < q.1 * p.2:=fun z=>by have:=(iF hp.pos hq.pos).mpr z;grind
 have h2:¬ q.1 * p.2 < p.1 * q.2:=fun z=>by have:=(iF hq.pos hp.pos).mpr z;grind
 have:=hp.uniq hq (by omega)
 exact Prod.ext this.1 this.2
theorem mF (a:Int):frR (mkT a 1,mkB a 1)=(a:Rat):=by
 rw [i7 a (by decide)]
 show (a:Rat) / ((1:Int):Rat)=a
 rw [show ((1:Int):Rat)=1 from rfl];grind
theorem p9 (a:Int):mkT a 1=a∧mkB a 1=1:=Low.self ⟨by decide,by unfold gc;simp⟩
theorem Bn {p:Int×Int} (h:0 < p.2):((p.1.fdiv p.2:Int):Rat)≤frR p∧frR p < ((p.1.fdiv p.2 + 1:Int):Rat):=by
 have m0:=Int.fmod_nonneg_of_pos p.1 h
 have m1:=Int.fmod_lt_of_pos p.1 h
 have e:p.2 * p.1.fdiv p.2 + p.1.fmod p.2=p.1:=by rw [Int.fmod_def];omega
 have hr:=fT h
 generalize hf:p.1.fdiv p.2=f at *
 have e1:((f:Int):Rat)=frR (f,1):=by unfold frR;show _=((f:Int):Rat) / ((1:Int):Rat);rw [show ((1:Int):Rat)=1 from rfl];grind
 have e2:((f + 1:Int):Rat)=frR (f + 1,1):=by unfold frR;show _=((f + 1:Int):Rat) / ((1:Int):Rat);rw [show ((1:Int):Rat)=1 from rfl];grind
 rw [e1,e2]
 constructor
 ·refine CS fun z=>?_
  have:=(iF (p:=p) (q:=(f,1)) h Int.one_pos).mp (by grind)
  simp only at this
  have:p.2 * f=f * p.2:=Int.mul_comm ..
  omega
 ·refine (iF (p:=p) (q:=(f + 1,1)) h Int.one_pos).mpr ?_
  simp only
  rw [Int.add_mul]
  have:p.2 * f=f * p.2:=Int.mul_comm ..
  omega
def ptR (ks:List Str) (ps:List (Int×Int)):Str→Rat:=fun n=>frR (ptOf ks ps n)
theorem ov_R {ks:List Str} {ps:List (Int×Int)} {K:Int} {n:Str} (h0:0 < pB ks ps n) (hd:pB ks ps n ∣ K):((ov (pT ks ps) (pB ks ps) K n:Int):Rat)=(K:Rat) * ptR ks ps n:=by
 obtain ⟨y,rfl⟩:=hd
 have hn:pB ks ps n≠0:=by omega
 unfold ov ptR frR
 rw [Int.mul_fdiv_cancel_left _ hn,Df,Df]
 have:=gn hn
 show ((pT ks ps n:Int):Rat) * _=((pB ks ps n:Int):Rat) * _ * (((pT ks ps n:Int):Rat) / ((pB ks ps n:Int):Rat))
 grind
theorem ml {ks:List Str} {ps:List (Int×Int)} {K:Int}:∀ {ts:List (Str×Int)},(∀ t∈ts,0 < pB ks ps t.1∧pB ks ps t.1 ∣ K)→((sumT (ov (pT ks ps) (pB ks ps) K) ts:Int):Rat)=(K:Rat) * sumR (ptR ks ps) ts
 | [],_=>by show ((0:Int):Rat)=_ * 0;rw [show ((0:Int):Rat)=0 from rfl];grind
 | t :: r,h=>by
  show ((t.2 * ov _ _ K t.1 + sumT _ r:Int):Rat)=_ * ((t.2:Rat) * _ + sumR _ r)
  obtain ⟨h1,h2⟩:=h t (CP ..)
  rw [Dg,Df,ov_R h1 h2,ml fun u hu=>h u (CL _ hu)];grind
def bnd (ks:List Str) (ps:List (Int×Int)) (n:Str) (r:Rw):Int×Int :=
 let o:=r.2.1.filter fun t=>decide (t.1≠n)
 let K:=bot (pB ks ps) (o.map (·.1))
 (mkT (r.2.2 * K - sumT (ov (pT ks ps) (pB ks ps) K) o) (cf r.2.1 n * K),mkB (r.2.2 * K - sumT (ov (pT ks ps) (pB ks ps) K) o) (cf r.2.1 n * K))
theorem eY {x:Str→Rat} {n:Str} (h:x n=0):∀ ts:List (Str×Int),sumR x (ts.filter fun t=>decide (t.1≠n))=sumR x ts
 | []=>rfl
 | t :: r=>by
  by_cases e:t.1=n
  ·rw [Db (by simp [e]),eY h r]
   show _=(t.2:Rat) * x t.1 + _
   rw [e,h];grind
  ·rw [Dc (by simp [e])]
   show _ + _=_ + sumR x r
   rw [eY h r]
theorem AM {ks:List Str} {ps:List (Int×Int)} {n:Str} {r:Rw} (hp:∀ t∈r.2.1,t.1≠n→0 < pB ks ps t.1) (h0:ptR ks ps n=0) (hc:cf r.2.1 n≠0) :
  Low (bnd ks ps n r).1 (bnd ks ps n r).2∧frR (bnd ks ps n r)=-(sumR (ptR ks ps) r.2.1 - (r.2.2:Int)) / ((cf r.2.1 n:Int):Rat):=by
 unfold bnd
 have ho:∀ t∈r.2.1.filter (fun t=>decide (t.1≠n)),0 < pB ks ps t.1:=fun t ht=>by
  obtain ⟨h1,h2⟩:=C5.mp ht
  exact hp t h1 (by simpa using h2)
 have hs:=eY h0 r.2.1
 generalize ho':r.2.1.filter (fun t=>decide (t.1≠n))=o at *
 have hK:0 < bot (pB ks ps) (o.map (·.1)):=cV fun k hk=>by
  obtain ⟨t,ht,rfl⟩:=CM.mp hk
  exact ho t ht
 have e:=ml (ks:=ks) (ps:=ps) (K:=bot (pB ks ps) (o.map (·.1))) (ts:=o) fun t ht=>⟨ho t ht,dY (CM.mpr ⟨t,ht,rfl⟩)⟩
 simp only
 generalize bot (pB ks ps) (o.map (·.1))=K at *
 have hcK:cf r.2.1 n * K≠0:=Int.mul_ne_zero hc (by omega)
 refine⟨eU _ hcK,?_⟩
 rw [i7 _ hcK,Df,Rat.intCast_sub,Df,e,hs]
 have h1:=gn hc
 have h2:=gn (show K≠0 by omega)
 grind
abbrev En2:=Option (Int×Int)×Bool
def tgt (lo:Bool) (a b:En2):En2:=match a.1,b.1 with
 | none,_=>b
 | some _,none=>a
 | some p,some q=>if p=q then (some p,a.2 && b.2) else if decide (q.1 * p.2 < p.1 * q.2)=lo then a else b
structure Tgt (lo:Bool) (cs:List ((Int×Int)×Bool)) (e:En2):Prop where
 nn:e.1=none→cs=[]
 so:∀ p,e.1=some p→Low p.1 p.2∧(∃ c∈cs,c.1=p∧c.2=e.2)∧∀ c∈cs,(c.1=p∧(e.2=true→c.2=true))∨(c.1≠p∧(if lo then frR c.1 < frR p else frR p < frR c.1))
theorem Tgt.nil {lo:Bool}:Tgt lo [] (none,false):=⟨fun _=>rfl,fun _ h=>(nomatch h)⟩
theorem Tgt.step {lo:Bool} {cs:List ((Int×Int)×Bool)} {e:En2} {c:(Int×Int)×Bool} (h:Tgt lo cs e) (hc:Low c.1.1 c.1.2):Tgt lo (cs++[c]) (tgt lo e (some c.1,c.2)):=by
 obtain ⟨e1,e2⟩:=e
 obtain ⟨q,b⟩:=c
 cases e1 with
 | none =>
  have:cs=[]:=h.nn rfl
  subst this
  refine⟨fun z=>(nomatch z),fun p hp=>?_⟩
  cases hp
  exact⟨hc,⟨(q,b),by simp,rfl,rfl⟩,fun c hc=>by
   have:c=(q,b):=by simpa using hc
   subst this;exact .inl ⟨rfl,id⟩⟩
 | some p =>
  obtain ⟨lp,⟨w,hw,w1,w2⟩,all⟩:=h.so p rfl
  show Tgt lo _ (if p=q then (some p,e2 && b) else if decide (q.1 * p.2 < p.1 * q.2)=lo then (some p,e2) else (some q,b))
  have lt:=iF (p:=q) (q:=p) hc.pos lp.pos
  have gt:=iF (p:=p) (q:=q) lp.pos hc.pos
  by_cases e:p=q
  ·rw [if_pos e]
   subst e
   refine⟨fun z=>(nomatch z),fun p' hp=>?_⟩
   cases hp
   refine⟨lp,?_,fun c hc'=>?_⟩
   ·cases b
    ·exact⟨(p,false),by simp,rfl,by simp⟩
    ·exact⟨w,CU _ hw,w1,by simpa using w2⟩
   ·rcases CV.mp hc' with hc' | hc'
    ·rcases all c hc' with ⟨a1,a2⟩ | a
     ·exact .inl ⟨a1,fun z=>a2 (by simpa using (by simpa using z:e2=true∧b=true).1)⟩
     ·exact .inr a
    ·have:c=(p,b):=by simpa using hc'
     subst this;exact .inl ⟨rfl,fun z=>(by simpa using z:e2=true∧b=true).2⟩
  ·rw [if_neg e]
   have ne:frR p≠frR q:=fun z=>e (tL lp hc z)
   by_cases k:decide (q.1 * p.2 < p.1 * q.2)=lo
   ·rw [if_pos k]
    refine⟨fun z=>(nomatch z),fun p' hp=>?_⟩
    cases hp
    refine⟨lp,⟨w,CU _ hw,w1,w2⟩,fun c hc'=>?_⟩
    rcases CV.mp hc' with hc' | hc'
    ·exact all c hc'
    ·have:c=(q,b):=by simpa using hc'
     subst this
     refine .inr ⟨fun z=>e z.symm,?_⟩
     cases lo
     ·have:=(decide_eq_false_iff_not.mp k)
      simp only [Bool.false_eq_true,if_false]
      have:¬ frR q < frR p:=fun z=>this (lt.mp z)
      grind
     ·simp only [if_true]
      exact lt.mpr (decide_eq_true_eq.mp k)
   ·rw [if_neg k]
    refine⟨fun z=>(nomatch z),fun p' hp=>?_⟩
    cases hp
    have pq:if lo then frR p < frR q else frR q < frR p:=by
     cases lo
     ·simp only [Bool.false_eq_true,if_false]
      simp only [Bool.not_eq_false,decide_eq_true_eq] at k
      exact lt.mpr k
     ·simp only [if_true]
      simp only [decide_eq_true_eq] at k
      have:¬ frR q < frR p:=fun z=>k (lt.mp z)
      grind
    refine⟨hc,⟨(q,b),by simp,rfl,rfl⟩,fun c hc'=>?_⟩
    rcases CV.mp hc' with hc' | hc'
    ·have x:=all c hc'
     refine .inr ?_
     cases lo
     ·simp only [Bool.false_eq_true,if_false] at x pq ⊢
      have:frR q < frR c.1:=by rcases x with x | x;rw [x.1];exact pq;grind
      exact⟨fun z=>by rw [z] at this;grind,this⟩
     ·simp only [if_true] at x pq ⊢
      have:frR c.1 < frR q:=by rcases x with x | x;rw [x.1];exact pq;grind
      exact⟨fun z=>by rw [z] at this;grind,this⟩
    ·have:c=(q,b):=by simpa using hc'
     subst this;exact .inl ⟨rfl,id⟩
def nmb (lo hi:Option (Int×Int)):Int×Int:=match lo,hi with
 | none,none=>(0,1)
 | none,some h=>(mkT (h.1.fdiv h.2 - 1) 1,mkB (h.1.fdiv h.2 - 1) 1)
 | some l,none=>(mkT (l.1.fdiv l.2 + 1) 1,mkB (l.1.fdiv l.2 + 1) 1)
 | some l,some h =>
  if mkT (l.1.fdiv l.2 + 1) 1 * h.2 < h.1 * mkB (l.1.fdiv l.2 + 1) 1 then (mkT (l.1.fdiv l.2 + 1) 1,mkB (l.1.fdiv l.2 + 1) 1)
  else if l=h then l
  else
   let s:Int×Int:=(mkT (l.1 * h.2 + h.1 * l.2) (l.2 * h.2),mkB (l.1 * h.2 + h.1 * l.2) (l.2 * h.2))
   (mkT (s.1 * 1) (s.2 * 2),mkB (s.1 * 1) (s.2 * 2))
theorem zD {lo hi:En2} (h1:∀ p,lo.1=some p→Low p.1 p.2) (h2:∀ p,hi.1=some p→Low p.1 p.2) (hh:∀ p q,lo.1=some p→hi.1=some q→frR p < frR q∨(frR p=frR q∧lo.2=true∧hi.2=true)) :
  Low (nmb lo.1 hi.1).1 (nmb lo.1 hi.1).2∧(∀ p,lo.1=some p→frR p < frR (nmb lo.1 hi.1)∨(frR p=frR (nmb lo.1 hi.1)∧lo.2=true))∧∀ q,hi.1=some q→frR (nmb lo.1 hi.1) < frR q∨(frR (nmb lo.1 hi.1)=frR q∧hi.2=true):=by
 obtain ⟨l,lb⟩:=lo
 obtain ⟨h,hb⟩:=hi
 have L1:∀ a,Low (mkT a 1) (mkB a 1):=fun a=>eU a (by decide)
 cases l with
 | none =>
  cases h with
  | none=>exact⟨(⟨by decide,by unfold gc;decide⟩:Low 0 1),fun p z=>(nomatch z),fun p z=>(nomatch z)⟩
  | some h =>
   refine⟨L1 _,fun p z=>(nomatch z),fun p z=>?_⟩
   cases z
   have:=Bn (h2 _ rfl).pos
   refine .inl ?_
   show frR (mkT _ 1,mkB _ 1) < _
   rw [mF,Rat.intCast_sub,show ((1:Int):Rat)=1 from rfl];grind
 | some l =>
  have hl:=h1 _ rfl
  have fl:=Bn hl.pos
  cases h with
  | none =>
   refine⟨L1 _,fun p z=>?_,fun p z=>(nomatch z)⟩
   cases z
   refine .inl ?_
   show _ < frR (mkT _ 1,mkB _ 1)
   rw [mF];exact fl.2
  | some h =>
   have hH:=h2 _ rfl
   have c:=hh _ _ rfl rfl
   show Low (nmb (some l) (some h)).1 (nmb (some l) (some h)).2∧(∀ p,some l=some p→frR p < frR (nmb (some l) (some h))∨_∧lb=true)∧(∀ q,some h=some q→frR (nmb (some l) (some h)) < frR q∨_∧hb=true)
   unfold nmb
   simp only
   by_cases k:mkT (l.1.fdiv l.2 + 1) 1 * h.2 < h.1 * mkB (l.1.fdiv l.2 + 1) 1
   ·rw [if_pos k]
    refine⟨L1 _,fun p z=>?_,fun p z=>?_⟩
    ·cases z;rw [mF];exact .inl fl.2
    ·cases z;exact .inl ((iF (L1 _).pos hH.pos).mpr k)
   ·rw [if_neg k]
    by_cases e:l=h
    ·rw [if_pos e]
     subst e
     have:lb=true∧hb=true:=by rcases c with c | c;grind;exact c.2
     exact⟨hl,fun p z=>by cases z;exact .inr ⟨rfl,this.1⟩,fun p z=>by cases z;exact .inr ⟨rfl,this.2⟩⟩
    ·rw [if_neg e]
     have lt:frR l < frR h:=by
      rcases c with c | c
      ·exact c
      ·exact absurd (tL hl hH c.1) e
     have nz:l.2 * h.2≠0:=Int.mul_ne_zero hl.ne hH.ne
     have sl:=eU (l.1 * h.2 + h.1 * l.2) nz
     have nz2:mkB (l.1 * h.2 + h.1 * l.2) (l.2 * h.2) * 2≠0:=Int.mul_ne_zero sl.ne (by decide)
     have e1:frR (mkT (l.1 * h.2 + h.1 * l.2) (l.2 * h.2),mkB (l.1 * h.2 + h.1 * l.2) (l.2 * h.2))=frR l + frR h:=by
      rw [i7 _ nz,Dg,Df,Df,Df]
      have a1:=gn hl.ne
      have a2:=gn hH.ne
      unfold frR
      grind
     have e2:frR (mkT (mkT (l.1 * h.2 + h.1 * l.2) (l.2 * h.2) * 1) (mkB (l.1 * h.2 + h.1 * l.2) (l.2 * h.2) * 2),mkB (mkT (l.1 * h.2 + h.1 * l.2) (l.2 * h.2) * 1) (mkB (l.1 * h.2 + h.1 * l.2) (l.2 * h.2) * 2))=(frR l + frR h) / 2:=by
      rw [i7 _ nz2,← e1,Df,Df,show ((1:Int):Rat)=1 from rfl,show ((2:Int):Rat)=2 from rfl]
      have a1:=gn sl.ne
      unfold frR
      grind
     refine⟨eU _ nz2,fun p z=>?_,fun p z=>?_⟩
     ·cases z;rw [e2];exact .inl (by grind)
     ·cases z;rw [e2];exact .inl (by grind)
end Mf
namespace Mf
open PySem L2 DL
def cnd (nm:List Str) (rows:List Rw) (ks:List Str) (ps:List (Int×Int)) (n:Str) (w:List Int):(Int×Int)×Bool:=(bnd ks ps n (smR nm rows w),!stc (rows.zip w))
def pcs (nm:List Str) (rows:List Rw) (ks:List Str) (ps:List (Int×Int)) (n:Str) (W:List (List Int)):En2×En2 :=
  W.foldl (fun e w =>
    (if 0 < cfs (rows.zip w) n then tgt true e.1 (some (cnd nm rows ks ps n w).1,(cnd nm rows ks ps n w).2) else e.1,
     if cfs (rows.zip w) n < 0 then tgt false e.2 (some (cnd nm rows ks ps n w).1,(cnd nm rows ks ps n w).2) else e.2)) ((none,false),(none,false))
theorem y6 {nm:List Str} {rows:List Rw} {ks:List Str} {ps:List (Int×Int)} {n:Str}:∀ (W:List (List Int)),(∀ w∈W,cfs (rows.zip w) n≠0→Low (cnd nm rows ks ps n w).1.1 (cnd nm rows ks ps n w).1.2) →
    Tgt true ((W.filter fun w=>decide (0 < cfs (rows.zip w) n)).map (cnd nm rows ks ps n)) (pcs nm rows ks ps n W).1∧Tgt false ((W.filter fun w=>decide (cfs (rows.zip w) n < 0)).map (cnd nm rows ks ps n)) (pcs nm rows ks ps n W).2:=by
  intro W
  unfold pcs
  have:∀ (W:List (List Int)) (c1 c2:List ((Int×Int)×Bool)) (e:En2×En2),(∀ w∈W,cfs (rows.zip w) n≠0→Low (cnd nm rows ks ps n w).1.1 (cnd nm rows ks ps n w).1.2)→Tgt true c1 e.1→Tgt false c2 e.2 →
      Tgt true (c1++(W.filter fun w=>decide (0 < cfs (rows.zip w) n)).map (cnd nm rows ks ps n)) (W.foldl (fun e w =>
    (if 0 < cfs (rows.zip w) n then tgt true e.1 (some (cnd nm rows ks ps n w).1,(cnd nm rows ks ps n w).2) else e.1,
     if cfs (rows.zip w) n < 0 then tgt false e.2 (some (cnd nm rows ks ps n w).1,(cnd nm rows ks ps n w).2) else e.2)) e).1 ∧
      Tgt false (c2++(W.filter fun w=>decide (cfs (rows.zip w) n < 0)).map (cnd nm rows ks ps n)) (W.foldl (fun e w =>
    (if 0 < cfs (rows.zip w) n then tgt true e.1 (some (cnd nm rows ks ps n w).1,(cnd nm rows ks ps n w).2) else e.1,
     if cfs (rows.zip w) n < 0 then tgt false e.2 (some (cnd nm rows ks ps n w).1,(cnd nm rows ks ps n w).2) else e.2)) e).2:=fun W=>by
    induction W with
    | nil=>intro c1 c2 e _ h1 h2;simpa using ⟨h1,h2⟩
    | cons w W ih =>
      intro c1 c2 e hl h1 h2
      have hl':=fun w h=>hl w (CL _ h)
      rw [List.foldl_cons]
      by_cases p:0 < cfs (rows.zip w) n
      · have q:¬ cfs (rows.zip w) n < 0:=by omega
        rw [if_pos p,if_neg q,Dc (by simpa using p),Db (by simpa using q),List.map_cons,List.append_cons]
        exact ih (c1++[cnd nm rows ks ps n w]) c2 (tgt true e.1 (some (cnd nm rows ks ps n w).1,(cnd nm rows ks ps n w).2),e.2) hl' (h1.step (hl w (CP ..) (by omega))) h2
      · by_cases q:cfs (rows.zip w) n < 0
        · rw [if_neg p,if_pos q,Db (by simpa using p),Dc (by simpa using q),List.map_cons,List.append_cons]
          exact ih c1 (c2++[cnd nm rows ks ps n w]) (e.1,tgt false e.2 (some (cnd nm rows ks ps n w).1,(cnd nm rows ks ps n w).2)) hl' h1 (h2.step (hl w (CP ..) (by omega)))
        · rw [if_neg p,if_neg q,Db (by simpa using p),Db (by simpa using q)]
          exact ih c1 c2 e hl' h1 h2
  intro h
  simpa using this W [] [] ((none,false),(none,false)) h .nil .nil
theorem rO {x:Str→Rat} {n:Str} {v:Rat} (h:x n=0):∀ l:List (Rw×Int),evl (putR x n v) l=evl x l + v * ((cfs l n:Int):Rat)
 | []=>by show (0:Rat)=0 + v * ((0:Int):Rat);rw [show ((0:Int):Rat)=0 from rfl];grind
 | p :: r=>by
  show _ * (sumR (putR x n v) p.1.2.1 - _) + evl (putR x n v) r=_ * (sumR x p.1.2.1 - _) + evl x r + v * ((p.2 * cf p.1.2.1 n + cfs r n:Int):Rat)
  rw [py h,rO h r,Dg,Df];grind
theorem Au {nm:List Str} {rows:List Rw} (h:Rws nm rows) (x:Str→Rat) (w:List Int):sumR x (smR nm rows w).2.1 - ((smR nm rows w).2.2:Int)=evl x (rows.zip w):=by
 rw [pJ (x:=x) h.nd (l:=rows.zip w) fun p hp=>h.sub p.1 (Di hp).1]
 have e2:sumR x (Mf.smT nm (Mf.cfs (rows.zip w)))=sumN x (Mf.cfs (rows.zip w)) nm:=by
  rw [pk h.nd fun t ht=>?_]
  ·congr 1;exact funext fun n=>(h.smT w).cf n
  ·obtain ⟨n,hn,rfl⟩:=CM.mp ht
   exact (C5.mp hn).1
 show sumR x (Mf.smT nm (Mf.cfs (rows.zip w))) - _=_
 rw [e2];rfl
theorem dR {nm:List Str} {rows:List Rw} (h:Rws nm rows) (w:List Int) (n:Str):cf (smR nm rows w).2.1 n=cfs (rows.zip w) n:=(h.smT w).cf n
theorem ku {nm:List Str} {rows:List Rw} {w:List Int} {t:Str×Int} (ht:t∈(smR nm rows w).2.1):t.1∈nm∧cfs (rows.zip w) t.1≠0∧t.2=cfs (rows.zip w) t.1:=by
 obtain ⟨n,hn,rfl⟩:=CM.mp ht
 obtain ⟨h1,h2⟩:=C5.mp hn
 exact⟨h1,by simpa using h2,rfl⟩
theorem xr {nm:List Str} {rows:List Rw} (H:Rws nm rows) {n:Str} {ns:List Str} {x:Str→Rat} (hso:∀ w∈stW rows (n :: ns),soR x (smR nm rows w)) {l h:List Int} (hl:l∈stW rows ns) (hh:h∈stW rows ns)
    (cl:0 < cfs (rows.zip l) n) (ch:cfs (rows.zip h) n < 0) :
    -(evl x (rows.zip l)) / ((cfs (rows.zip l) n:Int):Rat) < -(evl x (rows.zip h)) / ((cfs (rows.zip h) n:Int):Rat) ∨
      (-(evl x (rows.zip l)) / ((cfs (rows.zip l) n:Int):Rat)=-(evl x (rows.zip h)) / ((cfs (rows.zip h) n:Int):Rat)∧stc (rows.zip l)=false∧stc (rows.zip h)=false):=by
  obtain ⟨wl,al⟩:=cL hl
  obtain ⟨wh,ah⟩:=cL hh
  have nl:=tf wl.len wl.nn
  have nh:=tf wh.len wh.nn
  have c1:(0:Rat) < ((cfs (rows.zip l) n:Int):Rat):=fT cl
  have c2:((cfs (rows.zip h) n:Int):Rat) < 0:=by have:=Rat.intCast_lt_intCast.mpr ch;simpa using this
  have key:=pQ (rows:=rows) (n :: ns) (fun _=>True) (eV x rows) (fun s hs _=>by
    obtain ⟨w,hw,rfl⟩:=CM.mp hs
    exact (zy H (cL hw).1.len).mp (hso w hw)) (fun i=>-((cfs (rows.zip h) n:Int):Rat) * toV l i + ((cfs (rows.zip l) n:Int):Rat) * toV h i)
    ⟨fun i=>by
      have a1:=Rat.mul_nonneg (a:=-((cfs (rows.zip h) n:Int):Rat)) (b:=toV l i) (by grind) (nl.pos i)
      have a2:=Rat.mul_nonneg (a:=((cfs (rows.zip l) n:Int):Rat)) (b:=toV h i) (by grind) (nh.pos i)
      grind,fun i hi=>by rw [nl.top i hi,nh.top i hi];grind⟩
    (fun c hc=>by
      obtain ⟨k,hk,rfl⟩:=CM.mp hc
      rw [dJ,← kG wl.len,← kG wh.len]
      rcases CQ.mp hk with rfl | hk
      · grind
      · rw [al k hk,ah k hk,show ((0:Int):Rat)=0 from rfl];grind) (fun _ _=>trivial)
  unfold sat at key
  rw [dJ,← kZ wl.len,← kZ wh.len] at key
  generalize evl x (rows.zip l)=L at *
  generalize evl x (rows.zip h)=R at *
  generalize hcl:((cfs (rows.zip l) n:Int):Rat)=a at *
  generalize hch:((cfs (rows.zip h) n:Int):Rat)=b at *
  have e1:-b * L + a * R=((-R / b) - (-L / a)) * (a * (-b)):=by grind
  have pp:=Rat.mul_pos (a:=a) (b:=-b) c1 (by grind)
  rw [e1] at key
  rcases key with k | ⟨k,st⟩
  · refine .inl (CS fun z=>?_)
    have:=Rat.mul_nonneg (a:=(-L / a) - (-R / b)) (b:=a * -b) (by grind) (by grind)
    grind
  · refine .inr ⟨by rcases Rat.mul_eq_zero.mp k with q | q<;>grind,(pd wl.len).mpr fun i hi hp=>st i hi ?_,(pd wh.len).mpr fun i hi hp=>st i hi ?_⟩
    · have a1:=Rat.mul_pos (a:=-b) (b:=toV l i) (by grind) hp
      have a2:=Rat.mul_nonneg (a:=a) (b:=toV h i) (by grind) (nh.pos i)
      grind
    · have a1:=Rat.mul_nonneg (a:=-b) (b:=toV l i) (by grind) (nl.pos i)
      have a2:=Rat.mul_pos (a:=a) (b:=toV h i) c1 hp
      grind
theorem back {nm:List Str} {rows:List Rw} (H:Rws nm rows) {n:Str} {ns ks:List Str} {ps:List (Int×Int)} (hso:∀ w∈stW rows (n :: ns),soR (ptR ks ps) (smR nm rows w)) (h0:ptR ks ps n=0)
  (hp:∀ w∈stW rows ns,∀ t∈(smR nm rows w).2.1,t.1≠n→0 < pB ks ps t.1) :
  Low (nmb (pcs nm rows ks ps n (stW rows ns)).1.1 (pcs nm rows ks ps n (stW rows ns)).2.1).1 (nmb (pcs nm rows ks ps n (stW rows ns)).1.1 (pcs nm rows ks ps n (stW rows ns)).2.1).2 ∧
   ∀ w∈stW rows ns,soR (putR (ptR ks ps) n (frR (nmb (pcs nm rows ks ps n (stW rows ns)).1.1 (pcs nm rows ks ps n (stW rows ns)).2.1))) (smR nm rows w):=by
 have bo:∀ w∈stW rows ns,cfs (rows.zip w) n≠0→Low (cnd nm rows ks ps n w).1.1 (cnd nm rows ks ps n w).1.2∧frR (cnd nm rows ks ps n w).1=-(evl (ptR ks ps) (rows.zip w)) / ((cfs (rows.zip w) n:Int):Rat):=fun w hw hc=>by
  have:=AM (hp w hw) h0 (by rw [dR H];exact hc)
  rw [Au H,dR H] at this
  exact this
 obtain ⟨T1,T2⟩:=y6 (nm:=nm) (rows:=rows) (ks:=ks) (ps:=ps) (n:=n) (stW rows ns) fun w hw hc=>(bo w hw hc).1
 generalize pcs nm rows ks ps n (stW rows ns)=e at *
 obtain ⟨lo,hi⟩:=e
 simp only at *
 have at1:∀ p,lo.1=some p→∃ l∈stW rows ns,0 < cfs (rows.zip l) n∧p=(cnd nm rows ks ps n l).1∧lo.2=!stc (rows.zip l):=fun p hp=>by
  obtain ⟨_,⟨c,hc,e1,e2⟩,_⟩:=T1.so p hp
  obtain ⟨l,hl,rfl⟩:=CM.mp hc
  obtain ⟨hl1,hl2⟩:=C5.mp hl
  exact⟨l,hl1,by simpa using hl2,e1.symm,e2.symm⟩
 have at2:∀ p,hi.1=some p→∃ l∈stW rows ns,cfs (rows.zip l) n < 0∧p=(cnd nm rows ks ps n l).1∧hi.2=!stc (rows.zip l):=fun p hp=>by
  obtain ⟨_,⟨c,hc,e1,e2⟩,_⟩:=T2.so p hp
  obtain ⟨l,hl,rfl⟩:=CM.mp hc
  obtain ⟨hl1,hl2⟩:=C5.mp hl
  exact⟨l,hl1,by simpa using hl2,e1.symm,e2.symm⟩
 obtain ⟨low,v1,v2⟩:=zD (lo:=lo) (hi:=hi) (fun p h=>(T1.so p h).1) (fun p h=>(T2.so p h).1) fun p q hp hq=>by
  obtain ⟨l,hl,cl,rfl,sl⟩:=at1 p hp
  obtain ⟨h,hh,ch,rfl,sh⟩:=at2 q hq
  rw [(bo l hl (by omega)).2,(bo h hh (by omega)).2]
  rcases xr H hso hl hh cl ch with k | ⟨k1,k2,k3⟩
  ·exact .inl k
  ·exact .inr ⟨k1,by rw [sl,k2];rfl,by rw [sh,k3];rfl⟩
 refine⟨low,fun w hw=>?_⟩
 rw [sU H,rO h0]
 generalize frR (nmb lo.1 hi.1)=v at *
 rcases Int.lt_trichotomy (cfs (rows.zip w) n) 0 with c | c | c
 ·obtain ⟨_,b2⟩:=bo w hw (by omega)
  have cr:((cfs (rows.zip w) n:Int):Rat) < 0:=by have:=Rat.intCast_lt_intCast.mpr c;simpa using this
  have hm:cnd nm rows ks ps n w∈((stW rows ns).filter fun w=>decide (cfs (rows.zip w) n < 0)).map (cnd nm rows ks ps n):=CM.mpr ⟨w,C5.mpr ⟨hw,by simpa using c⟩,rfl⟩
  cases hlo:hi.1 with
  | none=>rw [T2.nn hlo] at hm;cases hm
  | some p =>
   have vv:=v2 p hlo
   have key:v < frR (cnd nm rows ks ps n w).1∨(v=frR (cnd nm rows ks ps n w).1∧stc (rows.zip w)=false):=by
    rcases (T2.so p hlo).2.2 _ hm with ⟨z1,z2⟩ | ⟨_,z⟩
    ·rw [z1]
     refine vv.imp id fun ⟨y1,y2⟩=>⟨y1,?_⟩
     have:(!stc (rows.zip w))=true:=z2 y2
     simpa using this
    ·simp only [Bool.false_eq_true,if_false] at z
     exact .inl (by grind)
   rw [b2] at key
   generalize evl (ptR ks ps) (rows.zip w)=L at *
   generalize ((cfs (rows.zip w) n:Int):Rat)=a at *
   have e1:L + v * a=((-L / a) - v) * (-a):=by grind
   rw [e1]
   rcases key with k | k
   ·exact .inl (Rat.mul_pos (by grind) (by grind))
   ·exact .inr ⟨by rw [← k.1];grind,k.2⟩
 ·have:=hso w (iO.mpr (.inl ⟨hw,c⟩))
  rw [sU H] at this
  rw [c,show ((0:Int):Rat)=0 from rfl]
  have e:evl (ptR ks ps) (rows.zip w) + v * 0=evl (ptR ks ps) (rows.zip w):=by grind
  rw [e]
  exact this
 ·obtain ⟨_,b2⟩:=bo w hw (by omega)
  have cr:(0:Rat) < ((cfs (rows.zip w) n:Int):Rat):=fT c
  have hm:cnd nm rows ks ps n w∈((stW rows ns).filter fun w=>decide (0 < cfs (rows.zip w) n)).map (cnd nm rows ks ps n):=CM.mpr ⟨w,C5.mpr ⟨hw,by simpa using c⟩,rfl⟩
  cases hlo:lo.1 with
  | none=>rw [T1.nn hlo] at hm;cases hm
  | some p =>
   have vv:=v1 p hlo
   have key:frR (cnd nm rows ks ps n w).1 < v∨(frR (cnd nm rows ks ps n w).1=v∧stc (rows.zip w)=false):=by
    rcases (T1.so p hlo).2.2 _ hm with ⟨z1,z2⟩ | ⟨_,z⟩
    ·rw [z1]
     refine vv.imp id fun ⟨y1,y2⟩=>⟨y1,?_⟩
     have:(!stc (rows.zip w))=true:=z2 y2
     simpa using this
    ·simp only [if_true] at z
     exact .inl (by grind)
   rw [b2] at key
   generalize evl (ptR ks ps) (rows.zip w)=L at *
   generalize ((cfs (rows.zip w) n:Int):Rat)=a at *
   have e1:L + v * a=(v - (-L / a)) * a:=by grind
   rw [e1]
   rcases key with k | k
   ·exact .inl (Rat.mul_pos (by grind) (by grind))
   ·exact .inr ⟨by rw [← k.1];grind,k.2⟩
def fbk (nm:List Str) (rows:List Rw):List Str→List Str→List (Int×Int)→List (Int×Int)
 | [],_,ps=>ps
 | n :: ns,ks,ps=>fbk nm rows ns (ks++[n]) (ps++[nmb (pcs nm rows ks ps n (stW rows ns)).1.1 (pcs nm rows ks ps n (stW rows ns)).2.1])
theorem pR {α:Type} {n k:Str} {v:α}:∀ {ks:List Str} {ps:List α},ps.length=ks.length→n∉ks→dAt (ks++[n]) (ps++[v]) k=if k=n then some v else dAt ks ps k
 | [],[],_,_=>by
  show (if n=k then some v else dAt [] [] k)=if k=n then some v else none
  by_cases e:n=k
  ·rw [if_pos e,if_pos e.symm]
  ·rw [if_neg e,if_neg fun z=>e z.symm];rfl
 | x :: ks,p :: ps,h,hn=>by
  rw [CQ,not_or] at hn
  show (if x=k then some p else dAt (ks++[n]) (ps++[v]) k)=_
  rw [pR (by simpa using h) hn.2]
  by_cases e:x=k
  ·rw [if_pos e,if_neg fun z=>hn.1 (z.symm.trans e.symm)]
   show _=if x=k then some p else dAt ks ps k
   rw [if_pos e]
  ·rw [if_neg e]
   show _=if k=n then some v else if x=k then some p else dAt ks ps k
   rw [if_neg e]
theorem gf {n k:Str} {v:Int×Int} {ks:List Str} {ps:List (Int×Int)} (h:ps.length=ks.length) (hn:n∉ks):ptOf (ks++[n]) (ps++[v]) k=if k=n then v else ptOf ks ps k:=by
 unfold ptOf
 rw [pR h hn]
 by_cases e:k=n
 ·rw [if_pos e,if_pos e];rfl
 ·rw [if_neg e,if_neg e]
theorem oJ {n:Str} {v:Int×Int} {ks:List Str} {ps:List (Int×Int)} (h:ps.length=ks.length) (hn:n∉ks):ptR (ks++[n]) (ps++[v])=putR (ptR ks ps) n (frR v):=by
 funext k
 unfold ptR putR
 rw [gf h hn]
 by_cases e:k=n
 ·rw [if_pos e,if_pos e]
 ·rw [if_neg e,if_neg e]
theorem vA {n:Str} {ks:List Str} {ps:List (Int×Int)} (h:n∉ks):ptOf ks ps n=(0,1):=by
 unfold ptOf
 rw [nU h];rfl
theorem tU {n:Str} {ks:List Str} {ps:List (Int×Int)} (h:n∉ks):ptR ks ps n=0:=by
 unfold ptR frR
 rw [vA h,show ((((0,1):Int×Int).1:Int):Rat)=0 from rfl];grind
theorem wu {nm:List Str} {rows:List Rw} (H:Rws nm rows):∀ (ns ks:List Str) (ps:List (Int×Int)),ps.length=ks.length→(∀ p∈ps,Low p.1 p.2)→(ks++ns).Nodup→(∀ n∈nm,n∈ks∨n∈ns)→(∀ w∈stW rows ns,soR (ptR ks ps) (smR nm rows w)) →
  (fbk nm rows ns ks ps).length=(ks++ns).length∧(∀ p∈fbk nm rows ns ks ps,Low p.1 p.2)∧ps <+: fbk nm rows ns ks ps∧∀ w∈stW rows [],soR (ptR (ks++ns) (fbk nm rows ns ks ps)) (smR nm rows w)
 | [],ks,ps,hl,lo,nd,hm,hs=>by
  rw [List.append_nil]
  exact⟨hl,lo,List.prefix_refl _,hs⟩
 | n :: ns,ks,ps,hl,lo,nd,hm,hs=>by
  have nd':(ks++[n]++ns).Nodup:=by simpa using nd
  have hn:n∉ks:=fun z=>by
   have:=(List.nodup_append.mp nd).2.2 n z n (CP ..)
   exact this rfl
  have hp:∀ w∈stW rows ns,∀ t∈(smR nm rows w).2.1,t.1≠n→0 < pB ks ps t.1:=fun w hw t ht hne=>by
   obtain ⟨h1,h2,_⟩:=ku ht
   have:t.1∈ks:=by
    rcases hm t.1 h1 with z | z
    ·exact z
    ·rcases CQ.mp z with z | z
     ·exact absurd z hne
     ·exact absurd ((cL hw).2 _ z) h2
   have P:Pt ks ps (ps.foldl (fun a p=>a + Builtin.Int.intBits p.1 + Builtin.Int.intBits p.2) 0):=⟨hl,lo,fun p hp=>?_,fun p hp=>?_⟩
   ·exact P.pos this
   ·exact (bits_fold ps 0 p hp).1
   ·exact (bits_fold ps 0 p hp).2
  obtain ⟨b1,b2⟩:=back H hs (tU hn) hp
  obtain ⟨c1,c2,c3,c4⟩:=wu H ns (ks++[n]) (ps++[_]) (by simp [hl]) (fun p hp=>(CV.mp hp).elim (lo p) fun z=>by rw [C2.mp z];exact b1) nd' (fun k hk=>by
   rcases hm k hk with z | z
   ·exact .inl (CU _ z)
   ·rcases CQ.mp z with z | z
    ·exact .inl (CT _ (C2.mpr z))
    ·exact .inr z) (fun w hw=>by rw [oJ hl hn];exact b2 w hw)
  have e:ks++n :: ns=ks++[n]++ns:=by simp
  rw [e]
  exact⟨c1,c2,(List.prefix_append ..).trans c3,c4⟩
where
 bits_fold:∀ (l:List (Int×Int)) (a:Nat),∀ p∈l,Builtin.Int.intBits p.1≤l.foldl (fun a p=>a + Builtin.Int.intBits p.1 + Builtin.Int.intBits p.2) a∧Builtin.Int.intBits p.2≤l.foldl (fun a p=>a + Builtin.Int.intBits p.1 + Builtin.Int.intBits p.2) a
  | q :: l,a,p,h=>by
   rw [List.foldl_cons]
   have mono:∀ (l:List (Int×Int)) (a:Nat),a≤l.foldl (fun a p=>a + Builtin.Int.intBits p.1 + Builtin.Int.intBits p.2) a:=fun l=>by
    induction l with
    | nil=>intro a;exact Nat.le_refl a
    | cons q l ih=>intro a;rw [List.foldl_cons];exact CN (by omega) (ih _)
   rcases CQ.mp h with rfl | h
   ·have:=mono l (a + Builtin.Int.intBits p.1 + Builtin.Int.intBits p.2)
    omega
   ·exact bits_fold l _ p h
theorem oU {nm:List Str} {rows:List Rw} (H:Rws nm rows) {j:Nat} {r:Rw} (hj:rows[j]?=some r):smR nm rows (unW rows.length j)=r:=by
 have hr:=C1 hj
 have hlt:j < rows.length:=(CY.mp hj).1
 have z:∀ {i:Nat} {rs:List Rw} (k:Nat),k + rs.length≤i→∀ n,cfs (rs.zip ((List.range' k rs.length).map fun x=>if x=i then (1:Int) else 0)) n=0∧bds (rs.zip ((List.range' k rs.length).map fun x=>if x=i then (1:Int) else 0))=0∧stc (rs.zip ((List.range' k rs.length).map fun x=>if x=i then (1:Int) else 0))=false:=fun {i rs}=>by
  induction rs with
  | nil=>intro k _ n;exact⟨rfl,rfl,rfl⟩
  | cons a rs ih =>
   intro k hk n
   rw [CZ] at hk
   obtain ⟨i1,i2,i3⟩:=ih (k + 1) (by omega) n
   rw [CZ,List.range'_succ,List.map_cons,if_neg (by omega)]
   refine⟨?_,?_,?_⟩
   ·show 0 * cf a.2.1 n + cfs (rs.zip _) n=0
    rw [i1];omega
   ·show 0 * a.2.2 + bds (rs.zip _)=0
    rw [i2];omega
   ·show ((isM a.1 && decide ((0:Int) < 0)) || stc (rs.zip _))=false
    rw [i3];simp
 have z2:∀ {i:Nat} {rs:List Rw} (k:Nat),i < k→∀ n,cfs (rs.zip ((List.range' k rs.length).map fun x=>if x=i then (1:Int) else 0)) n=0∧bds (rs.zip ((List.range' k rs.length).map fun x=>if x=i then (1:Int) else 0))=0∧stc (rs.zip ((List.range' k rs.length).map fun x=>if x=i then (1:Int) else 0))=false:=fun {i rs}=>by
  induction rs with
  | nil=>intro k _ n;exact⟨rfl,rfl,rfl⟩
  | cons a rs ih =>
   intro k hk n
   obtain ⟨i1,i2,i3⟩:=ih (k + 1) (by omega) n
   rw [CZ,List.range'_succ,List.map_cons,if_neg (by omega)]
   refine⟨?_,?_,?_⟩
   ·show 0 * cf a.2.1 n + cfs (rs.zip _) n=0
    rw [i1];omega
   ·show 0 * a.2.2 + bds (rs.zip _)=0
    rw [i2];omega
   ·show ((isM a.1 && decide ((0:Int) < 0)) || stc (rs.zip _))=false
    rw [i3];simp
 have key:∀ {rs:List Rw} (k i:Nat),rs[i]?=some r→∀ n,cfs (rs.zip ((List.range' k rs.length).map fun x=>if x=k + i then (1:Int) else 0)) n=cf r.2.1 n∧bds (rs.zip ((List.range' k rs.length).map fun x=>if x=k + i then (1:Int) else 0))=r.2.2∧stc (rs.zip ((List.range' k rs.length).map fun x=>if x=k + i then (1:Int) else 0))=isM r.1:=fun {rs}=>by
  induction rs with
  | nil=>intro k i h;cases h
  | cons a rs ih =>
   intro k i h n
   rw [CZ,List.range'_succ,List.map_cons]
   cases i with
   | zero =>
    cases h
    obtain ⟨i1,i2,i3⟩:=z2 (i:=k) (rs:=rs) (k + 1) (by omega) n
    rw [if_pos (by omega)]
    refine⟨?_,?_,?_⟩
    ·show 1 * cf r.2.1 n + cfs (rs.zip _) n=_
     rw [Nat.add_zero,i1];omega
    ·show 1 * r.2.2 + bds (rs.zip _)=_
     rw [Nat.add_zero,i2];omega
    ·show ((isM r.1 && decide ((0:Int) < 1)) || stc (rs.zip _))=_
     rw [Nat.add_zero,i3];simp
   | succ i =>
    obtain ⟨i1,i2,i3⟩:=ih (k + 1) i h n
    rw [if_neg (by omega),show k + (i + 1)=k + 1 + i by omega]
    refine⟨?_,?_,?_⟩
    ·show 0 * cf a.2.1 n + cfs (rs.zip _) n=_
     rw [i1];omega
    ·show 0 * a.2.2 + bds (rs.zip _)=_
     rw [i2];omega
    ·show ((isM a.1 && decide ((0:Int) < 0)) || stc (rs.zip _))=_
     rw [i3];simp
 have k0:=key (rs:=rows) 0 j hj
 have e:unW rows.length j=(List.range' 0 rows.length).map fun x=>if x=0 + j then (1:Int) else 0:=by unfold unW;rw [List.range_eq_range',Nat.zero_add]
 rw [← e] at k0
 have f1:(fun n=>cfs (rows.zip (unW rows.length j)) n)=cf r.2.1:=funext fun n=>(k0 n).1
 have s1:=H.smT (unW rows.length j)
 unfold smR
 have t1:Mf.smT nm (Mf.cfs (rows.zip (unW rows.length j)))=r.2.1:=by
  have f2:Mf.cfs (rows.zip (unW rows.length j))=cf r.2.1:=f1
  rw [f2] at s1 ⊢
  exact s1.uniq (H.sum r hr)
 rw [t1,(k0 "").2.1,(k0 "").2.2]
 obtain ⟨k,ts,b⟩:=r
 cases k<;>rfl
end Mf
namespace Mf
open PySem L2 DL
abbrev ib (x:Int):Nat:=Builtin.Int.intBits x
def wb (B m:Nat):Nat→Nat
 | 0=>1
 | k + 1=>2 * wb B m k + B + m + 1
def cb (B m k:Nat):Nat:=wb B m k + B + m
structure RwB (B:Nat) (rows:List Rw):Prop where
 tm:∀ r∈rows,∀ t∈r.2.1,ib t.2≤B
 bd:∀ r∈rows,ib r.2.2≤B
theorem ib0:ib 0=0:=by decide
theorem xh {ts:List (Str×Int)} {n:Str} {B:Nat} (nd:(ts.map (·.1)).Nodup) (h:∀ t∈ts,ib t.2≤B):ib (cf ts n)≤B:=by
 by_cases e:n∈ts.map (·.1)
 ·obtain ⟨t,ht,rfl⟩:=CM.mp e
  rw [mn nd ht];exact h t ht
 ·rw [jl e,ib0];exact Nat.zero_le _
theorem oW {B W:Nat} {n:Str}:∀ {l:List (Rw×Int)},(∀ p∈l,ib (cf p.1.2.1 n)≤B∧ib p.2≤W)→ib (cfs l n)≤W + B + l.length
 | [],_=>by show ib 0≤_;rw [ib0];omega
 | p :: r,h=>by
  have h1:=h p (CP ..)
  have:=intBits_add_le (intBits_mul_le h1.2 h1.1) (oW (B:=B) (W:=W) (n:=n) fun q hq=>h q (CL _ hq))
  show ib (p.2 * cf p.1.2.1 n + cfs r n)≤_
  rw [CZ]
  unfold ib
  omega
theorem pZ {B W:Nat}:∀ {l:List (Rw×Int)},(∀ p∈l,ib p.1.2.2≤B∧ib p.2≤W)→ib (bds l)≤W + B + l.length
 | [],_=>by show ib 0≤_;rw [ib0];omega
 | p :: r,h=>by
  have h1:=h p (CP ..)
  have:=intBits_add_le (intBits_mul_le h1.2 h1.1) (pZ (B:=B) (W:=W) fun q hq=>h q (CL _ hq))
  show ib (p.2 * p.1.2.2 + bds r)≤_
  rw [CZ]
  unfold ib
  omega
section
variable {nm:List Str} {rows:List Rw} {B:Nat}
theorem Rws.cfb (H:Rws nm rows) (hb:RwB B rows) {w:List Int} {W:Nat} (hw:∀ a∈w,ib a≤W) (n:Str):ib (Mf.cfs (rows.zip w) n)≤W + B + rows.length:=by
 refine CN (oW (B:=B) (W:=W) fun p hp=>⟨xh (H.sum _ (Di hp).1).nd (hb.tm _ (Di hp).1),hw _ (Di hp).2⟩) ?_
 rw [List.length_zip];omega
theorem Rws.bdb (hb:RwB B rows) {w:List Int} {W:Nat} (hw:∀ a∈w,ib a≤W):ib (Mf.bds (rows.zip w))≤W + B + rows.length:=by
 refine CN (pZ (B:=B) (W:=W) fun p hp=>⟨hb.bd _ (Di hp).1,hw _ (Di hp).2⟩) ?_
 rw [List.length_zip];omega
theorem t4 {a b:Int} {W C:Nat} (ha:ib a≤C) (hb:ib b≤C):∀ {l h:List Int},(∀ x∈l,ib x≤W)→(∀ x∈h,ib x≤W)→∀ x∈List.zipWith (fun x y=>x * a + y * b) l h,ib x≤W + C + 1
 | [],_,_,_,x,hx=>by simp at hx
 | _ :: _,[],_,_,x,hx=>by simp at hx
 | u :: l,v :: h,h1,h2,x,hx=>by
  rw [List.zipWith_cons_cons] at hx
  rcases CQ.mp hx with rfl | hx
  ·have:=intBits_add_le (intBits_mul_le (h1 u (CP ..)) ha) (intBits_mul_le (h2 v (CP ..)) hb)
   unfold ib;omega
  ·exact t4 ha hb (fun x hx=>h1 x (CL _ hx)) (fun x hx=>h2 x (CL _ hx)) x hx
theorem tV {B m k:Nat}:wb B m k≤wb B m (k + 1):=by
 show wb B m k≤2 * wb B m k + B + m + 1
 omega
theorem j7 (H:Rws nm rows) (hb:RwB B rows) {n:Str} {l h:List Int} {k:Nat} (hl:∀ a∈l,ib a≤wb B rows.length k) (hh:∀ a∈h,ib a≤wb B rows.length k):∀ a∈crS rows n l h,ib a≤wb B rows.length (k + 1):=fun a ha=>by
 have:=t4 (C:=cb B rows.length k) (intBits_neg_le (H.cfb hb hh n)) (H.cfb hb hl n) hl hh a ha
 show ib a≤2 * wb B rows.length k + B + rows.length + 1
 unfold cb at this
 omega
theorem dg (H:Rws nm rows) (hb:RwB B rows):∀ {ns:List Str} {w:List Int},w∈stW rows ns→∀ a∈w,ib a≤wb B rows.length ns.length
 | [],w,h,a,ha=>by
  obtain ⟨j,hj,rfl⟩:=CM.mp h
  obtain ⟨i,_,rfl⟩:=CM.mp ha
  show ib _≤1
  split<;>decide
 | n :: ns,w,h,a,ha=>by
  rw [CZ]
  rcases iO.mp h with ⟨h1,h2⟩ | ⟨l,hl,cl,k,hk,ck,rfl,_⟩
  ·exact CN (dg H hb h1 a ha) tV
  ·obtain ⟨b,hb',rfl⟩:=CM.mp ha
   exact intBits_fdiv_le (j7 H hb (dg H hb hl) (dg H hb hk) b hb')
end
theorem zab {z a b c:Nat} (h1:z + a + b≤c) (h4:4≤c):z + a * b≤c * c / 4:=by
 refine (Nat.le_div_iff_mul_le (by decide)).mpr ?_
 have e1:4 * (a * b)≤(a + b) * (a + b):=by
  have:(a + b) * (a + b)=a * a + 2 * (a * b) + b * b:=by rw [Nat.add_mul,Nat.mul_add,Nat.mul_add,Nat.mul_comm b a];omega
  rcases Nat.le_total a b with q | q
  ·obtain ⟨d,rfl⟩:=Nat.exists_eq_add_of_le q
   have e:(a + d) * (a + d)=a * a + 2 * (a * d) + d * d:=by rw [Nat.add_mul,Nat.mul_add,Nat.mul_add,Nat.mul_comm d a];omega
   have e':a * (a + d)=a * a + a * d:=Nat.mul_add ..
   omega
  ·obtain ⟨d,rfl⟩:=Nat.exists_eq_add_of_le q
   have e:(b + d) * (b + d)=b * b + 2 * (b * d) + d * d:=by rw [Nat.add_mul,Nat.mul_add,Nat.mul_add,Nat.mul_comm d b];omega
   have e':(b + d) * b=b * b + b * d:=by rw [Nat.add_mul,Nat.mul_comm d b]
   omega
 have e2:(a + b) * (a + b) + 4 * z≤c * c:=by
  obtain ⟨t,ht⟩:=Nat.exists_eq_add_of_le (show a + b + z≤c by omega)
  have hs:c * c=(a + b) * (a + b) + (z + t) * (a + b + c):=by
   have:c=(a + b) + (z + t):=by omega
   generalize hx:a + b=x at *
   generalize hy:z + t=y at *
   subst this
   grind
  rw [hs]
  have:(z + t) * (a + b + c) ≥ z * 4:=Nat.mul_le_mul (by omega) (by omega)
  omega
 omega
theorem cnt3 {rows:List Rw} {n:Str}:∀ W:List (List Int),(W.filter fun w=>decide (cfs (rows.zip w) n=0)).length + (W.filter fun w=>decide (0 < cfs (rows.zip w) n)).length + (W.filter fun w=>decide (cfs (rows.zip w) n < 0)).length=W.length
 | []=>rfl
 | w :: W=>by
  have ih:=cnt3 (rows:=rows) (n:=n) W
  rcases Int.lt_trichotomy (cfs (rows.zip w) n) 0 with q | q | q
  ·rw [Db (by simp;omega),Db (by simp;omega),Dc (by simpa using q),CZ,CZ];omega
  ·rw [Dc (by simpa using q),Db (by simp;omega),Db (by simp;omega),CZ,CZ];omega
  ·rw [Db (by simp;omega),Dc (by simpa using q),Db (by simp;omega),CZ,CZ];omega
theorem kJ {rows:List Rw} {n:Str} {most:Nat} (R:List (List Int)):∀ L:List (List Int),(L.flatMap fun l=>(R.map (crW rows n l)).filter fun u=>decide (usd u≤most)).length≤L.length * R.length
 | []=>by simp
 | l :: L=>by
  have ih:=kJ (rows:=rows) (n:=n) (most:=most) R L
  rw [List.flatMap_cons,CW,CZ,Nat.succ_mul]
  have:=List.length_filter_le (fun u=>decide (usd u≤most)) (R.map (crW rows n l))
  rw [CK] at this
  omega
theorem uU {rows:List Rw} {n:Str} {most:Nat} {W:List (List Int)} {c:Nat} (h:W.length≤c) (h4:4≤c):(woW rows n most W).length≤c * c / 4:=by
 unfold woW
 rw [CW]
 have h1:=cnt3 (rows:=rows) (n:=n) W
 have h2:=kJ (rows:=rows) (n:=n) (most:=most) (W.filter fun w=>decide (cfs (rows.zip w) n < 0)) (W.filter fun w=>decide (0 < cfs (rows.zip w) n))
 exact CN (Nat.add_le_add_left h2 _) (zab (by omega) h4)
def cnt:Nat→Nat→Nat
 | c,0=>c
 | c,k + 1=>cnt c k * cnt c k / 4
theorem rJ {rows:List Rw} {c:Nat} (h:rows.length≤c) (h4:4≤c):∀ ns:List Str,(stW rows ns).length≤cnt c ns.length∧4≤cnt c ns.length
 | []=>⟨by show (unWs rows.length).length≤c;unfold unWs;rw [CK,List.length_range];exact h,h4⟩
 | n :: ns=>by
  obtain ⟨h1,h2⟩:=rJ h h4 ns
  refine⟨uU h1 h2,?_⟩
  show 4≤cnt c ns.length * cnt c ns.length / 4
  refine (Nat.le_div_iff_mul_le (by decide)).mpr ?_
  exact Nat.mul_le_mul h2 h2
theorem nM {p q N z:Int} (h:Low p q) (e:((N:Int):Rat) * frR (p,q)=(z:Int)):q ∣ N:=by
 have hq:=gn h.ne
 have e2:((N * p:Int):Rat)=((z * q:Int):Rat):=by
  rw [Df,Df,← e]
  show _=((N:Int):Rat) * (((p:Int):Rat) / ((q:Int):Rat)) * _
  grind
 have e3:N * p=z * q:=Rat.intCast_inj.mp e2
 have d:q ∣ p * N:=⟨z,by rw [Int.mul_comm p,e3,Int.mul_comm]⟩
 have g:Int.gcd q p=1:=by rw [Int.gcd_comm];exact h.cop'
 have k:=(Int.dvd_gcd_mul_iff_dvd_mul (k:=q) (n:=p) (m:=N)).mpr d
 rw [g] at k
 simpa using k
theorem eE {a b:Int} {n:Nat} (h:a ∣ b) (h0:b≠0) (hb:ib b≤n):ib a≤n:=intBits_le_of_natAbs (Nat.le_of_dvd (by omega) (Int.natAbs_dvd_natAbs.mpr h)) hb
theorem nT {q:Str→Int}:∀ {l ks:List Str},l.Nodup→(∀ n∈l,n∈ks)→bot q l ∣ bot q ks
 | [],ks,_,_=>⟨bot q ks,(Int.one_mul _).symm⟩
 | n :: l,ks,nd,h=>by
  obtain ⟨h1,h2⟩:=List.nodup_cons.mp nd
  have hn:=h n (CP ..)
  have e:bot q ks=q n * bot q (ks.erase n):=vf (List.perm_cons_erase hn)
  have:=nT (q:=q) (l:=l) (ks:=ks.erase n) h2 fun k hk=>(List.mem_erase_of_ne (fun (z:k=n)=>h1 (z ▸ hk))).mpr (h k (CL _ hk))
  rw [e]
  exact Int.mul_dvd_mul (Int.dvd_refl _) this
theorem mo {q q':Str→Int}:∀ {l:List Str},(∀ n∈l,q n=q' n)→bot q l=bot q' l
 | [],_=>rfl
 | n :: l,h=>by show q n * _=q' n * _;rw [h n (CP ..),mo fun k hk=>h k (CL _ hk)]
theorem gO {f:Str→Int} {c m:Nat}:∀ {ts:List (Str×Int)},(∀ t∈ts,ib t.2≤c∧ib (f t.1)≤m)→ib (sumT f ts)≤c + m + ts.length
 | [],_=>by show ib 0≤_;rw [ib0];omega
 | t :: r,h=>by
  have h1:=h t (CP ..)
  have h2:=intBits_add_le (intBits_mul_le h1.1 h1.2) (gO (c:=c) (m:=m) fun u hu=>h u (CL _ hu))
  show ib (t.2 * f t.1 + sumT f r)≤_
  rw [CZ]
  unfold ib
  omega
structure og (L:Int) (c g κ T:Nat) (p:Int×Int):Prop where
 low:Low p.1 p.2
 bb:ib p.2≤c + g
 tb:ib p.1≤c + T + κ + 70
 wh:∃ N z:Int,N≠0∧ib N≤c∧((N * L:Int):Rat) * frR p=(z:Int)
theorem u7 {ks:List Str} {ps:List (Int×Int)} {n:Str} {r:Rw} {c κ g T:Nat} {L:Int} (P:Pt ks ps T) (hκ:ib (bot (pB ks ps) ks)≤κ) (L0:L≠0) (hL:∀ k∈ks,pB ks ps k ∣ L) (hg:ib L≤g) (nd:(r.2.1.map (·.1)).Nodup) (hk:ks.length≤60)
  (hp:∀ t∈r.2.1,t.1≠n→t.1∈ks) (hc:cf r.2.1 n≠0) (hcb:ib (cf r.2.1 n)≤c) (htb:∀ t∈r.2.1,ib t.2≤c) (hbb:ib r.2.2≤c):og L c g κ T (bnd ks ps n r):=by
 unfold bnd
 have ho:∀ t∈r.2.1.filter (fun t=>decide (t.1≠n)),t.1∈ks∧ib t.2≤c:=fun t ht=>by
  obtain ⟨h1,h2⟩:=C5.mp ht
  exact⟨hp t h1 (by simpa using h2),htb t h1⟩
 have ndo:((r.2.1.filter (fun t=>decide (t.1≠n))).map (·.1)).Nodup:=nd.sublist (List.filter_sublist.map _)
 generalize ho':r.2.1.filter (fun t=>decide (t.1≠n))=o at *
 have hon:∀ k∈o.map (·.1),k∈ks:=fun k hk=>by
  obtain ⟨t,ht,rfl⟩:=CM.mp hk
  exact (ho t ht).1
 have hlen:o.length≤60:=by
  have:=hZ ndo hon
  rw [CK] at this
  omega
 have hK:0 < bot (pB ks ps) (o.map (·.1)):=cV fun k hk=>P.pos (hon k hk)
 have hKa:0 < bot (pB ks ps) ks:=cV fun k hk=>P.pos hk
 have hd:=nT (q:=pB ks ps) ndo hon
 have hKb:ib (bot (pB ks ps) (o.map (·.1)))≤κ:=eE hd (by omega) hκ
 have hsb:ib (sumT (ov (pT ks ps) (pB ks ps) (bot (pB ks ps) (o.map (·.1)))) o)≤c + (T + κ) + o.length:=gO fun t ht=>⟨(ho t ht).2,intBits_mul_le (P.Tb (ho t ht).1) (intBits_fdiv_le hKb)⟩
 have r1:=ml (ks:=ks) (ps:=ps) (K:=bot (pB ks ps) (o.map (·.1))) (ts:=o) fun t ht=>⟨P.pos (ho t ht).1,dY (CM.mpr ⟨t,ht,rfl⟩)⟩
 have r2:=ml (ks:=ks) (ps:=ps) (K:=L) (ts:=o) fun t ht=>⟨P.pos (ho t ht).1,hL _ (ho t ht).1⟩
 simp only
 generalize bot (pB ks ps) (o.map (·.1))=K at *
 have hcK:cf r.2.1 n * K≠0:=Int.mul_ne_zero hc (by omega)
 have lw:=eU (r.2.2 * K - sumT (ov (pT ks ps) (pB ks ps) K) o) hcK
 have wh:((cf r.2.1 n * L:Int):Rat) * frR (mkT (r.2.2 * K - sumT (ov (pT ks ps) (pB ks ps) K) o) (cf r.2.1 n * K),mkB (r.2.2 * K - sumT (ov (pT ks ps) (pB ks ps) K) o) (cf r.2.1 n * K))=((r.2.2 * L - sumT (ov (pT ks ps) (pB ks ps) L) o:Int):Rat):=by
  rw [i7 _ hcK]
  have h1:=gn hc
  have h2:=gn (show K≠0 by omega)
  simp only [Df,Rat.intCast_sub,r1,r2]
  generalize sumR (ptR ks ps) o=x at *
  generalize ((cf r.2.1 n:Int):Rat)=a at *
  generalize ((K:Int):Rat)=b at *
  generalize ((L:Int):Rat)=d at *
  generalize ((r.2.2:Int):Rat)=e at *
  grind
 refine⟨lw,eE (nM lw wh) (Int.mul_ne_zero hc L0) (intBits_mul_le hcb hg),?_,?_⟩
 ·have:=intBits_sub_le (intBits_mul_le hbb hKb) hsb
  exact CN (intBits_fdiv_le this) (by omega)
 ·exact⟨cf r.2.1 n,_,hc,hcb,wh⟩
theorem wH {lo:Bool} {Pr:Int×Int→Prop} {a b:En2} (ha:∀ p,a.1=some p→Pr p) (hb:∀ p,b.1=some p→Pr p):∀ p,(tgt lo a b).1=some p→Pr p:=by
 obtain ⟨a1,a2⟩:=a
 obtain ⟨b1,b2⟩:=b
 intro p h
 cases a1 with
 | none=>exact hb p h
 | some x =>
  cases b1 with
  | none=>exact ha p h
  | some y =>
   have h:(if x=y then ((some x,a2 && b2):En2) else if decide (y.1 * x.2 < x.1 * y.2)=lo then (some x,a2) else (some y,b2)).1=some p:=h
   split at h
   ·exact ha p h
   ·split at h
    ·exact ha p h
    ·exact hb p h
theorem wE {nm:List Str} {rows:List Rw} {ks:List Str} {ps:List (Int×Int)} {n:Str} {Pr:Int×Int→Prop}:∀ {W:List (List Int)},(∀ w∈W,cfs (rows.zip w) n≠0→Pr (cnd nm rows ks ps n w).1)→(∀ p,(pcs nm rows ks ps n W).1.1=some p→Pr p)∧∀ p,(pcs nm rows ks ps n W).2.1=some p→Pr p:=by
  intro W
  unfold pcs
  have:∀ (W:List (List Int)) (e:En2×En2),(∀ w∈W,cfs (rows.zip w) n≠0→Pr (cnd nm rows ks ps n w).1)→(∀ p,e.1.1=some p→Pr p)→(∀ p,e.2.1=some p→Pr p)→(∀ p,(W.foldl (fun e w =>
    (if 0 < cfs (rows.zip w) n then tgt true e.1 (some (cnd nm rows ks ps n w).1,(cnd nm rows ks ps n w).2) else e.1,
     if cfs (rows.zip w) n < 0 then tgt false e.2 (some (cnd nm rows ks ps n w).1,(cnd nm rows ks ps n w).2) else e.2)) e).1.1=some p→Pr p)∧∀ p,(W.foldl (fun e w =>
    (if 0 < cfs (rows.zip w) n then tgt true e.1 (some (cnd nm rows ks ps n w).1,(cnd nm rows ks ps n w).2) else e.1,
     if cfs (rows.zip w) n < 0 then tgt false e.2 (some (cnd nm rows ks ps n w).1,(cnd nm rows ks ps n w).2) else e.2)) e).2.1=some p→Pr p:=fun W=>by
    induction W with
    | nil=>intro e _ h1 h2;exact⟨h1,h2⟩
    | cons w W ih =>
      intro e h h1 h2
      rw [List.foldl_cons]
      refine ih _ (fun w hw=>h w (CL _ hw)) ?_ ?_
      · show ∀ p,(if 0 < cfs (rows.zip w) n then tgt true e.1 (some (cnd nm rows ks ps n w).1,(cnd nm rows ks ps n w).2) else e.1).1=some p→Pr p
        by_cases q:0 < cfs (rows.zip w) n
        · rw [if_pos q];exact wH h1 fun p hp=>by cases hp;exact h w (CP ..) (by omega)
        · rw [if_neg q];exact h1
      · show ∀ p,(if cfs (rows.zip w) n < 0 then tgt false e.2 (some (cnd nm rows ks ps n w).1,(cnd nm rows ks ps n w).2) else e.2).1=some p→Pr p
        by_cases q:cfs (rows.zip w) n < 0
        · rw [if_pos q];exact wH h2 fun p hp=>by cases hp;exact h w (CP ..) (by omega)
        · rw [if_neg q];exact h2
  exact fun h=>this W _ h (fun p hp=>nomatch hp) fun p hp=>nomatch hp
theorem uV {L:Int} {c g κ T:Nat} {lo hi:Option (Int×Int)} (h0:L≠0) (hg:ib L≤g) (hgκ:g≤κ) (h1:∀ p,lo=some p→og L c g κ T p) (h2:∀ p,hi=some p→og L c g κ T p) :
  ib (nmb lo hi).1≤2 * (c + T + κ + 72) + 2∧ib (nmb lo hi).2≤2 * c + g + 2∧∃ M:Int,M≠0∧ib M≤2 * c + 2∧(nmb lo hi).2 ∣ M * L:=by
 have key:ib (nmb lo hi).1≤2 * (c + T + κ + 72) + 2∧∃ M:Int,M≠0∧ib M≤2 * c + 2∧(nmb lo hi).2 ∣ M * L:=?_
 ·obtain ⟨k1,M,m0,mb,md⟩:=key
  refine⟨k1,eE md (Int.mul_ne_zero m0 h0) ?_,M,m0,mb,md⟩
  have:=intBits_mul_le mb hg
  unfold ib;omega
 have i1:ib 1=1:=by decide
 have o1:∀ a,∃ M:Int,M≠0∧ib M≤2 * c + 2∧mkB a 1 ∣ M * L:=fun a=>⟨1,by decide,by omega,by rw [(p9 a).2];exact Int.one_dvd _⟩
 have o2:∀ {p:Int×Int} {z:Int},ib p.1≤c + T + κ + 70→ib z≤1→ib (mkT (p.1.fdiv p.2 + z) 1)≤2 * (c + T + κ + 72) + 2:=fun {p z} h hz=>by
  rw [(p9 _).1]
  have:=intBits_add_le (intBits_fdiv_le (y:=p.2) h) hz
  unfold ib
  omega
 unfold nmb
 cases lo with
 | none =>
  cases hi with
  | none=>exact⟨by show ib 0≤_;rw [ib0];omega,1,by decide,by omega,Int.one_dvd _⟩
  | some h=>exact⟨o2 (p:=h) (z:=-1) (h2 h rfl).tb (by decide),o1 _⟩
 | some l =>
  cases hi with
  | none=>exact⟨o2 (p:=l) (z:=1) (h1 l rfl).tb (by decide),o1 _⟩
  | some h =>
   have cl:=h1 l rfl
   have ch:=h2 h rfl
   simp only
   by_cases k:mkT (l.1.fdiv l.2 + 1) 1 * h.2 < h.1 * mkB (l.1.fdiv l.2 + 1) 1
   ·rw [if_pos k];exact⟨o2 (p:=l) (z:=1) cl.tb (by decide),o1 _⟩
   ·rw [if_neg k]
    obtain ⟨N1,z1,n1,b1,w1⟩:=cl.wh
    obtain ⟨N2,z2,n2,b2,w2⟩:=ch.wh
    by_cases e:l=h
    ·rw [if_pos e];have b:=cl.tb;exact⟨by omega,N1,n1,by omega,nM (p:=l.1) cl.low w1⟩
    ·rw [if_neg e]
     have nz:l.2 * h.2≠0:=Int.mul_ne_zero cl.low.ne ch.low.ne
     have sl:=eU (l.1 * h.2 + h.1 * l.2) nz
     have nz2:mkB (l.1 * h.2 + h.1 * l.2) (l.2 * h.2) * 2≠0:=Int.mul_ne_zero sl.ne (by decide)
     have e1:frR (mkT (l.1 * h.2 + h.1 * l.2) (l.2 * h.2),mkB (l.1 * h.2 + h.1 * l.2) (l.2 * h.2))=frR l + frR h:=by
      rw [i7 _ nz,Dg,Df,Df,Df]
      have a1:=gn cl.low.ne
      have a2:=gn ch.low.ne
      unfold frR
      grind
     have e2:frR (mkT (mkT (l.1 * h.2 + h.1 * l.2) (l.2 * h.2) * 1) (mkB (l.1 * h.2 + h.1 * l.2) (l.2 * h.2) * 2),mkB (mkT (l.1 * h.2 + h.1 * l.2) (l.2 * h.2) * 1) (mkB (l.1 * h.2 + h.1 * l.2) (l.2 * h.2) * 2))=(frR l + frR h) / 2:=by
      rw [i7 _ nz2,← e1,Df,Df,show ((1:Int):Rat)=1 from rfl,show ((2:Int):Rat)=2 from rfl]
      have a1:=gn sl.ne
      unfold frR
      grind
     have dv:mkB (mkT (l.1 * h.2 + h.1 * l.2) (l.2 * h.2) * 1) (mkB (l.1 * h.2 + h.1 * l.2) (l.2 * h.2) * 2) ∣ 2 * (N1 * N2) * L:=by
      refine nM (z:=N2 * z1 + N1 * z2) (eU _ nz2) ?_
      rw [e2]
      simp only [Df,Dg] at w1 w2 ⊢
      rw [show ((2:Int):Rat)=2 from rfl]
      grind
     refine⟨?_,2 * (N1 * N2),Int.mul_ne_zero (by decide) (Int.mul_ne_zero n1 n2),?_,dv⟩
     ·have s1:=intBits_add_le (intBits_mul_le cl.tb ch.bb) (intBits_mul_le ch.tb cl.bb)
      have s2:ib (mkT (l.1 * h.2 + h.1 * l.2) (l.2 * h.2) * 1)≤2 * (c + T + κ + 72) + 2:=by
       rw [Int.mul_one]
       exact CN (intBits_fdiv_le s1) (by omega)
      exact intBits_fdiv_le s2
     ·have:=intBits_mul_le (show ib 2≤2 by decide) (intBits_mul_le b1 b2)
      unfold ib;omega
end Mf
namespace Lw
open PySem L2 DL
variable {P:Program} {w:World} {K:PySem.W.Frag} {mg:Str→Option Value} {base:Heap}
open Mf
theorem ak {t u:TDS} {R:gh} {δ:En} (h:∀ K:En→Prop,K=u R→t { R with nx:=K } δ):dSeq t u R δ:=h _ rfl
theorem sq_t {xs:List D}:sq true xs=.lst xs:=rfl
theorem sq_f {xs:List D}:sq false xs=.tup xs:=rfl
def kP (src:TDC) (F:D→gh→En→Prop):TDS:=fun R δ=>src δ fun xs δ1=>∃ I:Nat→En→Prop,I 0 δ1 ∧
 (∀ i x δ',xs[i]?=some x→I i δ'→F x { R with nx:=I (i + 1),ct:=I (i + 1),bk:=R.nx,tp:=False } δ')∧∀ δ',I xs.length δ'→R.nx δ'
theorem d5 {src:TDC} {g:TDG} {tb:TDS} {R:gh} {δ:En} (h:∀ (F:D→gh→En→Prop) (N:En→Prop),F=(fun x R δ=>g x δ fun δ2=>tb R δ2)→N=R.nx→kP src F { R with nx:=N } δ):dFor src g tb R δ:=h _ _ rfl rfl
def gq (t:TDE) (F:D→gh→En→Prop):TDS:=fun R δ=>t δ (wd fun d δ1=>∃ xs,d=.lst xs∧∃ I:Nat→En→Prop,I 0 δ1 ∧
 (∀ i x δ',xs[i]?=some x→I i δ'→F x { R with nx:=I (i + 1),ct:=I (i + 1),bk:=R.nx,tp:=False } δ')∧∀ δ',I xs.length δ'→R.nx δ')
theorem c7 {t:TDE} {g:TDG} {tb:TDS} {R:gh} {δ:En} (h:∀ (F:D→gh→En→Prop) (N:En→Prop),F=(fun x R δ=>g x δ fun δ2=>tb R δ2)→N=R.nx→gq t F { R with nx:=N } δ):qM t g tb R δ:=h _ _ rfl rfl
def sY (t:TDA) (F:D→gh→En→Prop):TDS:=fun R δ=>t δ fun ds δ1=>∃ j:Int,ds=[.int j]∧-(2 ^ 62)≤j∧j < 2 ^ 62∧∃ I:Nat→En→Prop,I 0 δ1 ∧
 (∀ i δ',i < j.toNat→I i δ'→F (.int i) { R with nx:=I (i + 1),ct:=I (i + 1),bk:=R.nx,tp:=False } δ')∧∀ δ',I j.toNat δ'→R.nx δ'
theorem oF {t:TDA} {g:TDG} {tb:TDS} {R:gh} {δ:En} (h:∀ (F:D→gh→En→Prop) (N:En→Prop),F=(fun x R δ=>g x δ fun δ2=>tb R δ2)→N=R.nx→sY t F { R with nx:=N } δ):xB t g tb R δ:=h _ _ rfl rfl
theorem cD {g:TDG} {x:D} {t u:TDS} {R:gh} {δ:En} (h:∀ K:En→Prop,K=u R→g x δ fun δ2=>t { R with nx:=K } δ2):g x δ fun δ2=>dSeq t u R δ2:=h _ rfl
theorem aN {α β γ:Type} (f:β→Option γ) (g:α→β) (h:α→γ):∀ (l:List α),(∀ x∈l,f (g x)=some (h x))→(l.map g).filterMap f=l.map h
 | [],_=>rfl
 | x :: l,e=>by rw [List.map_cons,List.map_cons,List.filterMap_cons,e x (CP ..),aN f g h l fun y hy=>e y (CL _ hy)]
theorem ifn {c A B:Prop} [Decidable c] (hc:¬ c) (h:B):if c then A else B:=by rw [if_neg hc];exact h
theorem ifp {c A B:Prop} [Decidable c] (hc:c) (h:A):if c then A else B:=by rw [if_pos hc];exact h
theorem at0 {α:Type} {x:α} {xs:List α}:atI (x :: xs) 0=some x:=by
 unfold atI ixN
 simp only [CZ]
 rw [if_pos (by omega),if_pos (by omega)]
 rfl
theorem at1 {α:Type} {x y:α} {xs:List α}:atI (x :: y :: xs) 1=some y:=by
 unfold atI ixN
 simp only [CZ]
 rw [if_pos (by omega),if_pos (by omega)]
 rfl
theorem at2 {α:Type} {x y z:α} {xs:List α}:atI (x :: y :: z :: xs) 2=some z:=by
 unfold atI ixN
 simp only [CZ]
 rw [if_pos (by omega),if_pos (by omega)]
 rfl
theorem atm1 {α:Type} {x:α} {xs:List α}:atI (xs++[x]) (-1)=some x:=vD xs x
theorem sD {i j:Int} {R:D→Prop}:tY [.int i,.int j] R↔R (.int (i + j)):=Iff.rfl
theorem tI {xs ys:List D} {R:D→Prop}:tY [.lst xs,.lst ys] R↔xs.length + ys.length≤9000∧R (.lst (xs++ys)):=Iff.rfl
theorem uR {xs:List D} {R:D→Prop}:fLen [.lst xs] R↔R (.int xs.length):=Iff.rfl
theorem xM {xs:List D} {R:D→Prop}:fLen [.fz xs] R↔R (.int xs.length):=Iff.rfl
theorem vh {xs:List D} {R:D→Prop}:fLen [.tup xs] R↔R (.int xs.length):=Iff.rfl
theorem vo {i:Int} {R:D→Prop}:fInt [.int i] R↔R (.int i):=Iff.rfl
theorem wY {b:Bool} {R:D→Prop}:fInt [.bl b] R↔R (.int (if b then 1 else 0)):=Iff.rfl
theorem zg {xs:List D} {i:Int} {R:D→Prop}:fIx [.tup xs,.int i] R↔∃ v,atI xs i=some v∧R v:=Iff.rfl
theorem yJ {xs:List D} {i:Int} {R:D→Prop}:fIx [.lst xs,.int i] R↔∃ v,atI xs i=some v∧R v:=Iff.rfl
theorem Bq {xs:List D} {i:Int} {R:D→Prop}:fIx [.fz xs,.int i] R↔∃ v,atI xs i=some v∧R v:=Iff.rfl
theorem xU {z:Str} {i:Int} {R:D→Prop}:fIx [.str z,.int i] R↔z.length≤9000∧∃ c,atI z.cps.toList i=some c∧R (.str ⟨#[c]⟩):=Iff.rfl
theorem xO {xs:List D} {l u:Option Int} {R:D→Prop}:fSl (.lst xs) l u R↔R (.lst (cut xs l u)):=Iff.rfl
theorem Ba {xs:List D} {l u:Option Int} {R:D→Prop}:fSl (.fz xs) l u R↔R (.lst (cut xs l u)):=Iff.rfl
theorem Nat.cast_ofNat_Int {n:Nat}:((OfNat.ofNat n:Nat):Int)=OfNat.ofNat n:=rfl
theorem qL:isT "int" (tyN .non)=false:=rfl
theorem uh {b:Bool}:isT "int" (tyN (.bl b))=true:=rfl
theorem qR {i:Int}:isT "int" (tyN (.int i))=true:=rfl
theorem qv {x:Str}:isT "int" (tyN (.str x))=false:=rfl
theorem qV {xs:List D}:isT "int" (tyN (.tup xs))=false:=rfl
theorem qz {xs:List D}:isT "int" (tyN (.lst xs))=false:=rfl
theorem ub {xs:List D}:isT "int" (tyN (.fz xs))=false:=rfl
theorem qO {ks:List Str} {vs:List D}:isT "int" (tyN (.dct ks vs))=false:=rfl
theorem n5:isT "bool" (tyN .non)=false:=rfl
theorem qG {b:Bool}:isT "bool" (tyN (.bl b))=true:=rfl
theorem nH {i:Int}:isT "bool" (tyN (.int i))=false:=rfl
theorem nB {x:Str}:isT "bool" (tyN (.str x))=false:=rfl
theorem nV {xs:List D}:isT "bool" (tyN (.tup xs))=false:=rfl
theorem nG {xs:List D}:isT "bool" (tyN (.lst xs))=false:=rfl
theorem qh {xs:List D}:isT "bool" (tyN (.fz xs))=false:=rfl
theorem ox {ks:List Str} {vs:List D}:isT "bool" (tyN (.dct ks vs))=false:=rfl
theorem lK:isT "tuple" (tyN .non)=false:=rfl
theorem mU {b:Bool}:isT "tuple" (tyN (.bl b))=false:=rfl
theorem lF {i:Int}:isT "tuple" (tyN (.int i))=false:=rfl
theorem l7 {x:Str}:isT "tuple" (tyN (.str x))=false:=rfl
theorem lR {xs:List D}:isT "tuple" (tyN (.tup xs))=true:=rfl
theorem ly {xs:List D}:isT "tuple" (tyN (.lst xs))=false:=rfl
theorem ng {xs:List D}:isT "tuple" (tyN (.fz xs))=false:=rfl
theorem lJ {ks:List Str} {vs:List D}:isT "tuple" (tyN (.dct ks vs))=false:=rfl
theorem mM:isT "list" (tyN .non)=false:=rfl
theorem qP {b:Bool}:isT "list" (tyN (.bl b))=false:=rfl
theorem mV {i:Int}:isT "list" (tyN (.int i))=false:=rfl
theorem mT {x:Str}:isT "list" (tyN (.str x))=false:=rfl
theorem nN {xs:List D}:isT "list" (tyN (.tup xs))=false:=rfl
theorem oq {xs:List D}:isT "list" (tyN (.lst xs))=true:=rfl
theorem qr {xs:List D}:isT "list" (tyN (.fz xs))=true:=rfl
theorem ms {ks:List Str} {vs:List D}:isT "list" (tyN (.dct ks vs))=false:=rfl
theorem ql:isT "str" (tyN .non)=false:=rfl
theorem sj {b:Bool}:isT "str" (tyN (.bl b))=false:=rfl
theorem qT {i:Int}:isT "str" (tyN (.int i))=false:=rfl
theorem qe {x:Str}:isT "str" (tyN (.str x))=true:=rfl
theorem qt {xs:List D}:isT "str" (tyN (.tup xs))=false:=rfl
theorem qC {xs:List D}:isT "str" (tyN (.lst xs))=false:=rfl
theorem rM {xs:List D}:isT "str" (tyN (.fz xs))=false:=rfl
theorem qX {ks:List Str} {vs:List D}:isT "str" (tyN (.dct ks vs))=false:=rfl
theorem mB:isT "dict" (tyN .non)=false:=rfl
theorem qg {b:Bool}:isT "dict" (tyN (.bl b))=false:=rfl
theorem oA {i:Int}:isT "dict" (tyN (.int i))=false:=rfl
theorem mR {x:Str}:isT "dict" (tyN (.str x))=false:=rfl
theorem om {xs:List D}:isT "dict" (tyN (.tup xs))=false:=rfl
theorem nZ {xs:List D}:isT "dict" (tyN (.lst xs))=false:=rfl
theorem qF {xs:List D}:isT "dict" (tyN (.fz xs))=false:=rfl
theorem nu {ks:List Str} {vs:List D}:isT "dict" (tyN (.dct ks vs))=true:=rfl
theorem rq {xs ys:List D} {R:D→Prop}:tY [.tup xs,.tup ys] R↔xs≠[]∧ys≠[]∧xs.length + ys.length≤9000∧R (.tup (xs++ys)):=Iff.rfl
theorem x9 {xs:List D} {l u:Option Int} {R:D→Prop}:fSl (.tup xs) l u R↔¬ (HT.sIx xs.length 0 l=0∧HT.sIx xs.length xs.length u=xs.length)∧R (.tup (cut xs l u)):=Iff.rfl
theorem yT {R:D→Prop}:fIs [.non,.non] R↔R (.bl true):=Iff.rfl
theorem yj {xs:List D} {R:D→Prop}:fIs [.tup xs,.non] R↔R (.bl false):=Iff.rfl
theorem sE {ks:List Str} {vs:List D}:isT "int" (tyN (.fd ks vs))=false:=rfl
theorem qi {ks:List Str} {vs:List D}:isT "bool" (tyN (.fd ks vs))=false:=rfl
theorem nL {ks:List Str} {vs:List D}:isT "tuple" (tyN (.fd ks vs))=false:=rfl
theorem qU {ks:List Str} {vs:List D}:isT "list" (tyN (.fd ks vs))=false:=rfl
theorem rl {ks:List Str} {vs:List D}:isT "str" (tyN (.fd ks vs))=false:=rfl
theorem qE {ks:List Str} {vs:List D}:isT "dict" (tyN (.fd ks vs))=true:=rfl
local macro_rules | `(tactic| walk_at "rd") => `(tactic| try simp only [wg, A7, Aq, dcSq, wv, As, qc, wG, Ag, wa, vV, uz, qk, w6, ui, uS, ym, rq, x9, yT, yj, sE, qi, nL, qU, rl, qE, ne_eq, List.cons_ne_nil, Ay, zK, sq_t, sq_f, zF, zL, zw, AL, At, rX, sM, Sl.own.injEq, exists_const, exists_eq, D.lst.injEq, D.dct.injEq, D.str.injEq, dSeq, dIf, dRet, dSet, dV, dC, dOp, dUn, wd, dTst, dAnd, dOr, dNot, AB, dOrV, Bx, dIfE, wo, zM, qB, dTup, dLst, zV, rP, Ae, dAsg, gU, AJ, we, kT, A5, BD, uo, vT, dSl, sA, AT, dIsi, zN, CA, B3, zc, xX, BB, ya, vE, Bm, sD, tI, uR, xM, vh, vo, wY, zg, yJ, Bq, xU, xO, Ba, vG, yF, uJ, vK, zQ, u9, yV, w4, nw, oz, zv, qN, qA, xE, BA, AG, BI, allT, okT, capL, capO, oS, gQ, qL, uh, qR, qv, qV, qz, ub, qO, n5, qG, nH, nB, nV, nG, qh, ox, lK, mU, lF, l7, lR, ly, ng, lJ, mM, qP, mV, mT, nN, oq, qr, ms, ql, sj, qT, qe, qt, qC, rM, qX, mB, qg, oA, mR, om, nZ, qF, nu, List.map_cons, List.map_nil, CZ, List.length_nil, List.replicate, List.cons_append, List.nil_append, List.append_nil, List.getElem?_cons_zero, List.getElem?_cons_succ, List.set_cons_zero, List.set_cons_succ, Option.some.injEq, Sl.dat.injEq, D.int.injEq, D.bl.injEq, D.tup.injEq, List.cons.injEq, and_assoc, and_true, true_and, exists_eq_left', exists_eq_left, exists_eq_right', exists_and_left, Nat.zero_add, Nat.reduceAdd, Nat.reduceSub, Nat.add_zero, Nat.reduceLeDiff, Nat.sub_self, at0, at1, at2, atm1, if_true, if_false, ite_true, ite_false, Int.reduceEq, Int.reduceLT, Nat.cast_ofNat_Int, not_true_eq_false, not_false_eq_true, Bool.false_eq_true, reduceCtorEq, Bool.not_false, Bool.not_true, List.forall_mem_cons, CQ, List.not_mem_nil, forall_const, false_implies, implies_true, Nat.reduceLT, if_pos, List.filterMap_cons, List.filterMap_nil, decide_eq_true_eq, Bool.not_eq_true', decide_eq_false_iff_not])
theorem mo2 {x y:Int} {m n:Nat} (h1:Builtin.Int.intBits x≤m) (h2:Builtin.Int.intBits y≤n) (h:m + n≤134217728:=by decide):IntMulOk x y:=IntMulOk.of_le h1 h2 h
theorem qx {b:Int} {n:Nat} (h:Builtin.Int.intBits b≤n) (hn:n≤8000):b.natAbs.log2 < 9000:=by
 have h1:=intBits_le_iff.mp h
 rcases Nat.eq_zero_or_pos b.natAbs with h0 | hp
 ·rw [h0];decide
 ·have h2:b.natAbs.log2 < n:=(Nat.log2_lt (Nat.ne_of_gt hp)).mpr h1
  omega
inductive bT (ds:List D) (R:D→Prop):Prop
 | mk (a b:_) (hh:ds=[.int a,.int b]∧R (.int (gc a b)))
theorem eQ:∀ ds R,bT ds R→ds.length=2:=fun _ _ h_0=>by obtain ⟨_,_,e,_⟩:=h_0;rw [e];rfl
theorem bL:ax ["one","other","rest"] ["one","other"] (am s_common_divisor):=⟨rfl,rfl,rfl,by decide +kernel,rfl,by decide +kernel,by decide +kernel⟩
theorem fS (F:Fd K mg "common_divisor" s_common_divisor ["one","other"]) (xT:mg "abs"=none):Cal P w K mg base 1 "common_divisor" ["one","other"] (spD K bT):=by
 refine fn_D F bL eQ fun fa cdv A outer s H E ds R hr h=>?_
 have hU:=hr.units
 refine⟨_,(ad (uD PassesOwn.never (aH (jG hU) (de_v 1) ae (aB _)) (ad (aA 2 bL.nd (aC gN (de_v 0) (de_v 1))) (ad (aA 0 bL.nd (de_v 1)) (ag (aA 1 bL.nd (de_v 2)))))) (ag (av (ba Cc rfl xT BK (ac (de_v 0) af))))),?_⟩
 obtain ⟨x,y,rfl,q⟩:=h
 refine⟨fun δ=>∃ a b t,δ=[.dat (.int a),.dat (.int b),t]∧gc a b=gc x y,fun δ=>match δ with | [_,.dat (.int b),_]=>b.natAbs | _=>0,⟨x,y,.no,rfl,rfl⟩,?_⟩
 rintro δ ⟨a,b,t,rfl,e⟩
 walk_at "rd"
 refine ite2 (fun c=>⟨c,(yh a b).trans e,jA a b c⟩) (fun c=>?_)
 have c:=Decidable.not_not.mp c
 subst c
 rw [← yL,e]
 exact q
theorem yQ {t b:Int} {n:Nat} (hb:b≠0) (h:Builtin.Int.intBits b≤n):Builtin.Int.intBits (dv t b)≤n:=by
 refine intBits_le_of_natAbs ?_ h
 rw [l9]
 exact Int.gcd_le_natAbs_right t hb
inductive jU (ds:List D) (R:D→Prop):Prop
 | mk (t b:_) (hh:ds=[.int t,.int b]∧b≠0∧Builtin.Int.intBits b≤8000∧R (.tup [.int (mkT t b),.int (mkB t b)]))
theorem qW:∀ ds R,jU ds R→ds.length=2:=fun _ _ h_0=>by obtain ⟨_,_,e,_⟩:=h_0;rw [e];rfl
theorem nY:ax ["top","bottom","divisor"] ["top","bottom"] (am s_made):=⟨rfl,rfl,rfl,by decide +kernel,rfl,by decide +kernel,by decide +kernel⟩
theorem vt (F:Fd K mg "made" s_made ["top","bottom"]) (a8:Cal P w K mg base 1 "common_divisor" ["one","other"] (spD K (bT))):Cal P w K mg base 2 "made" ["top","bottom"] (spD K jU):=by
 refine fn_D F nY qW fun fa cdv A outer s H E ds R hr h=>?_
 have hU:=hr.units
 refine⟨_,(ad (aR (aH (o_eq hU) (de_v 1) ae (aB _)) iC aD) (ad (aA 2 nY.nd (aq a8 (rm hr) rfl (ac (de_v 0) (ac (de_v 1) af)))) (ad (aR (aH o_lt (de_v 1) ae (aB _)) (ag (aA 2 nY.nd (vk uv (de_v 2)))) aD) (ag (av (aG (ac (aC eW (de_v 0) (de_v 2)) (ac (aC eW (de_v 1) (de_v 2)) af)))))))),?_⟩
 obtain ⟨x,y,rfl,hy,hb,q⟩:=h
 walk_at "rd"
 rw [if_neg hy]
 refine⟨x,y,rfl,?_⟩
 walk_at "rd"
 have hd:=Bz x hy
 have hl:=qx (yQ (t:=x) hy hb) (Nat.le_refl _)
 unfold mkT mkB at q
 unfold dv at hd hl q
 refine ite2 (fun c=>?_) (fun c=>?_)
 ·simp only [if_pos c] at hd hl q
  exact⟨⟨hd,hl⟩,⟨hd,hl⟩,q⟩
 ·simp only [if_neg c] at hd hl q
  exact⟨⟨hd,hl⟩,⟨hd,hl⟩,q⟩
inductive rV (ds:List D) (R:D→Prop):Prop
 | mk (p q:Int×Int) (hh:ds=[frD p,frD q]∧p.2 * q.2≠0∧ib p.1≤1000000∧ib q.1≤1000000∧ib p.2≤4000∧ib q.2≤4000∧R (frD (mkT (p.1 * q.2 + q.1 * p.2) (p.2 * q.2),mkB (p.1 * q.2 + q.1 * p.2) (p.2 * q.2))))
theorem qD:∀ ds R,rV ds R→ds.length=2:=fun _ _ h_0=>by obtain ⟨_,_,e,_⟩:=h_0;rw [e];rfl
theorem xK:ax ["one","other"] ["one","other"] (am s_plus):=⟨rfl,rfl,rfl,by decide +kernel,rfl,by decide +kernel,by decide +kernel⟩
theorem vx (F:Fd K mg "plus" s_plus ["one","other"]) (dE:Cal P w K mg base 2 "made" ["top","bottom"] (spD K (jU))):Cal P w K mg base 3 "plus" ["one","other"] (spD K rV):=by
 refine fn_D F xK qD fun fa cdv A outer s H E ds R hr h=>?_
 have hU:=hr.units
 refine⟨_,(ag (av (aq dE (rm hr) rfl (ac (aC aS (aC bF (ar au (de_v 0) ae (fun _ _=>rfl)) (ar au (de_v 1) ae (fun _ _=>rfl))) (aC bF (ar au (de_v 1) ae (fun _ _=>rfl)) (ar au (de_v 0) ae (fun _ _=>rfl)))) (ac (aC bF (ar au (de_v 0) ae (fun _ _=>rfl)) (ar au (de_v 1) ae (fun _ _=>rfl))) af))))),?_⟩
 obtain ⟨p,q,rfl,nz,b1,b2,b3,b4,k⟩:=h
 unfold frD at k ⊢
 walk_at "rd"
 exact⟨mo2 b1 b4,mo2 b2 b3,mo2 b3 b4,_,_,rfl,nz,CN (intBits_mul_le b3 b4) (by decide),k⟩
inductive nK (ds:List D) (R:D→Prop):Prop
 | mk (p q:Int×Int) (hh:ds=[frD p,frD q]∧p.2 * q.2≠0∧ib p.1≤2000000∧ib q.1≤1000000∧ib p.2≤7990∧ib q.2≤10∧R (frD (mkT (p.1 * q.1) (p.2 * q.2),mkB (p.1 * q.1) (p.2 * q.2))))
theorem mP:∀ ds R,nK ds R→ds.length=2:=fun _ _ h_0=>by obtain ⟨_,_,e,_⟩:=h_0;rw [e];rfl
theorem vF:ax ["one","other"] ["one","other"] (am s_times):=⟨rfl,rfl,rfl,by decide +kernel,rfl,by decide +kernel,by decide +kernel⟩
theorem tz (F:Fd K mg "times" s_times ["one","other"]) (dE:Cal P w K mg base 2 "made" ["top","bottom"] (spD K (jU))):Cal P w K mg base 3 "times" ["one","other"] (spD K nK):=by
 refine fn_D F vF mP fun fa cdv A outer s H E ds R hr h=>?_
 have hU:=hr.units
 refine⟨_,(ag (av (aq dE (rm hr) rfl (ac (aC bF (ar au (de_v 0) ae (fun _ _=>rfl)) (ar au (de_v 1) ae (fun _ _=>rfl))) (ac (aC bF (ar au (de_v 0) ae (fun _ _=>rfl)) (ar au (de_v 1) ae (fun _ _=>rfl))) af))))),?_⟩
 obtain ⟨p,q,rfl,nz,b1,b2,b3,b4,k⟩:=h
 unfold frD at k ⊢
 walk_at "rd"
 exact⟨mo2 b1 b2,mo2 b3 b4,_,_,rfl,nz,CN (intBits_mul_le b3 b4) (by decide),k⟩
inductive oN (ds:List D) (R:D→Prop):Prop
 | mk (p q:Int×Int) (hh:ds=[frD p,frD q]∧ib p.1≤2000000∧ib q.1≤2000000∧ib p.2≤8000∧ib q.2≤8000∧R (.bl (decide (p.1 * q.2 < q.1 * p.2))))
theorem qm:∀ ds R,oN ds R→ds.length=2:=fun _ _ h_0=>by obtain ⟨_,_,e,_⟩:=h_0;rw [e];rfl
theorem wS:ax ["one","other"] ["one","other"] (am s_less):=⟨rfl,rfl,rfl,by decide +kernel,rfl,by decide +kernel,by decide +kernel⟩
theorem uN (F:Fd K mg "less" s_less ["one","other"]):Cal P w K mg base 1 "less" ["one","other"] (spD K oN):=by
 refine fn_D F wS qm fun fa cdv A outer s H E ds R hr h=>?_
 have hU:=hr.units
 refine⟨_,(ag (av (cN o_lt (aC bF (ar au (de_v 0) ae (fun _ _=>rfl)) (ar au (de_v 1) ae (fun _ _=>rfl))) (aC bF (ar au (de_v 1) ae (fun _ _=>rfl)) (ar au (de_v 0) ae (fun _ _=>rfl))) (aB _)))),?_⟩
 obtain ⟨p,q,rfl,b1,b2,b3,b4,k⟩:=h
 unfold frD
 walk_at "rd"
 exact⟨mo2 b1 b4,mo2 b2 b3,k⟩
inductive Say where
 | row (k:Kd) (ts:List (Str×Int)) (b:Int)
 | nt (s:Say)
 | bo (s t:Say)
 | ei (s t:Say)
def Say.D:Say→D
 | .row k ts b=>rowD k ts b
 | .nt s=>.tup [.str "not",s.D]
 | .bo s t=>.tup [.str "both",s.D,t.D]
 | .ei s t=>.tup [.str "either",s.D,t.D]
def Say.dep:Say→Nat
 | .row _ _ _=>1
 | .nt s=>s.dep + 1
 | .bo s t=>max s.dep t.dep + 1
 | .ei s t=>max s.dep t.dep + 1
def Say.nms:Say→List Str
 | .row _ ts _=>ts.map (·.1)
 | .nt s=>s.nms
 | .bo s t=>s.nms++t.nms
 | .ei s t=>s.nms++t.nms
def Say.ok (names:List Str):Say→Prop
 | .row _ ts b=>jE names ts∧Builtin.Int.intBits b≤10000
 | .nt s=>s.ok names
 | .bo s t=>s.ok names∧t.ok names
 | .ei s t=>s.ok names∧t.ok names
theorem Say.dep_pos:∀ s:Say,0 < s.dep
 | .row _ _ _=>Nat.one_pos
 | .nt s=>Nat.succ_pos _
 | .bo s t=>Nat.succ_pos _
 | .ei s t=>Nat.succ_pos _
theorem Say.nms_sub {names:List Str}:∀ {s:Say},s.ok names→∀ n∈s.nms,n∈names
 | .row _ ts _,h,n,hn=>h.1.sub.subset hn
 | .nt s,h,n,hn=>Say.nms_sub (s:=s) h n hn
 | .bo s t,h,n,hn=>(CV.mp hn).elim (Say.nms_sub h.1 n) (Say.nms_sub h.2 n)
 | .ei s t,h,n,hn=>(CV.mp hn).elim (Say.nms_sub h.1 n) (Say.nms_sub h.2 n)
def Say.isRow:Say→Bool
 | .row _ _ _=>true
 | _=>false
inductive eD (ds:List D) (R:D→Prop):Prop
 | mk (s:Say) (hh:ds=[s.D]∧R (.bl s.isRow))
theorem ma:∀ ds R,eD ds R→ds.length=1:=fun _ _ h_0=>by obtain ⟨_,e,_⟩:=h_0;rw [e];rfl
theorem t7:ax ["saying"] ["saying"] (am s_is_row):=⟨rfl,rfl,rfl,by decide +kernel,rfl,by decide +kernel,by decide +kernel⟩
theorem qu (F:Fd K mg "is_row" s_is_row ["saying"]):Cal P w K mg base 1 "is_row" ["saying"] (spD K eD):=by
 refine fn_D F t7 ma fun fa cdv A outer s H E ds R hr h=>?_
 have hU:=hr.units
 refine⟨_,(ag (av (qq (cN (o_eq hU) (ar au (de_v 0) ae (fun _ _=>rfl)) ay (aB _)) (cZ (cN (o_eq hU) (ar au (de_v 0) ae (fun _ _=>rfl)) ay (aB _)))))),?_⟩
 obtain ⟨s,rfl,q⟩:=h
 walk_at "rd"
 cases s with
 | row k ts b =>
  cases k
  ·unfold Say.D rowD kdS;walk_at "rd";exact q
  ·unfold Say.D rowD kdS;walk_at "rd";exact ifn (by decide) q
 | nt s=>unfold Say.D;walk_at "rd";exact ifn (by decide) q
 | bo s t=>unfold Say.D;walk_at "rd";exact ifn (by decide) q
 | ei s t=>unfold Say.D;walk_at "rd";exact ifn (by decide) q
def cM (ks:List Str) (l:List Str):List Str:=l.foldl kPut ks
def ju (n:Nat):List D:=List.replicate n (.bl true)
theorem uM {ks:List Str} {x y:Str}:y∈kPut ks x↔y∈ks∨y=x:=by
 unfold kPut
 by_cases e:x∈ks
 ·rw [if_pos e]
  exact⟨.inl,fun h=>h.elim id fun z=>z ▸ e⟩
 ·rw [if_neg e,CV,C2]
theorem fV:∀ {l ks:List Str},ks.Nodup→(cM ks l).Nodup
 | [],_,h=>h
 | _ :: l,_,h=>fV (l:=l) (nD h)
theorem dF:∀ {l ks:List Str} {y:Str},y∈cM ks l↔y∈ks∨y∈l
 | [],ks,y=>by show y∈ks↔_;simp
 | x :: l,ks,y=>by
  show y∈cM (kPut ks x) l↔_
  rw [dF,uM,CQ,or_assoc]
theorem fQ {ks l r:List Str}:cM ks (l++r)=cM (cM ks l) r:=List.foldl_append ..
theorem lq:∀ (ks:List Str) (n:Nat) (x:Str),vRep ks (ju n) x (D.bl true)=ju n
 | [],n,x=>by cases n<;>rfl
 | k :: ks,0,x=>rfl
 | k :: ks,n + 1,x=>by
  show (if k=x then D.bl true else D.bl true) :: vRep ks (ju n) x (D.bl true)=D.bl true :: ju n
  rw [lq ks n x];split<;>rfl
theorem tK {ks:List Str} {x:Str}:vPut ks (ju ks.length) x (D.bl true)=ju (kPut ks x).length:=by
 unfold vPut kPut
 by_cases e:x∈ks
 ·rw [if_pos e,if_pos e,lq]
 ·rw [if_neg e,if_neg e,CW]
  show List.replicate _ _++List.replicate 1 _=List.replicate _ _
  rw [List.replicate_append_replicate];rfl
def Say.subs:Say→List Say
 | .row _ _ _=>[]
 | .nt s=>[s]
 | .bo s t=>[s,t]
 | .ei s t=>[s,t]
theorem Say.subs_dep {s u:Say} (h:u∈s.subs):u.dep < s.dep:=by
 cases s with
 | row k ts b=>cases h
 | nt s=>rw [C2.mp h];exact Nat.lt_succ_self _
 | bo s t =>
  have h:u∈[s,t]:=h
  simp only [CQ,List.not_mem_nil,or_false] at h
  show u.dep < max s.dep t.dep + 1
  rcases h with rfl | rfl<;>omega
 | ei s t =>
  have h:u∈[s,t]:=h
  simp only [CQ,List.not_mem_nil,or_false] at h
  show u.dep < max s.dep t.dep + 1
  rcases h with rfl | rfl<;>omega
theorem Say.subs_ok {names:List Str} {s u:Say} (h:u∈s.subs) (o:s.ok names):u.ok names:=by
 cases s with
 | row k ts b=>cases h
 | nt s=>rw [C2.mp h];exact o
 | bo s t =>
  have h:u∈[s,t]:=h
  simp only [CQ,List.not_mem_nil,or_false] at h
  rcases h with rfl | rfl
  ·exact o.1
  ·exact o.2
 | ei s t =>
  have h:u∈[s,t]:=h
  simp only [CQ,List.not_mem_nil,or_false] at h
  rcases h with rfl | rfl
  ·exact o.1
  ·exact o.2
def Say.word:Say→Str
 | .row k _ _=>kdS k
 | .nt _=>"not"
 | .bo _ _=>"both"
 | .ei _ _=>"either"
theorem Say.D_subs {s:Say} (h:s.isRow=false):s.D=.tup (.str s.word :: s.subs.map Say.D):=by
 cases s with
 | row=>cases h
 | nt=>rfl
 | bo=>rfl
 | ei=>rfl
theorem Say.nms_subs {s:Say} (h:s.isRow=false):s.nms=s.subs.flatMap Say.nms:=by
 cases s with
 | row=>cases h
 | nt s=>show s.nms=s.nms++[];rw [List.append_nil]
 | bo s t=>show s.nms++t.nms=s.nms++(t.nms++[]);rw [List.append_nil]
 | ei s t=>show s.nms++t.nms=s.nms++(t.nms++[]);rw [List.append_nil]
theorem uQ {α:Type} {x:α} {xs:List α}:cut (x :: xs) (some 1) none=xs:=by
 unfold cut
 have e1:HT.sIx (x :: xs).length 0 (some 1)=1:=by
  have:=HT.sIx_nat (x :: xs).length 0 1
  rw [CZ] at this ⊢
  rw [show (some (1:Int))=some ((1:Nat):Int) from rfl,this]
  omega
 rw [e1,HT.sIx_none,CZ,List.drop_one,List.tail_cons,Nat.add_sub_cancel,C4]
inductive bx (n:Nat) (d:D) (ds:List D) (R:D→D→Prop):Prop
 | mk (names s ks:_) (hh:ds=[Say.D s]∧s.dep≤n∧s.ok names∧names.length≤100∧ks.Nodup∧(∀ k∈ks,k∈names)∧d=.dct ks (ju ks.length)∧R .non (.dct (cM ks s.nms) (ju (cM ks s.nms).length)))
theorem hE (n:Nat):∀ d ds R,bx n d ds R→ds.length=1:=fun _ _ _ h_0=>by obtain ⟨_,_,_,e,_⟩:=h_0;rw [e];rfl
theorem gx:∀ d ds R,¬ bx 0 d ds R:=fun _ _ _ h_0=>by obtain ⟨_,s,_,_,h,_⟩:=h_0;have:=s.dep_pos;omega
theorem cP:ax ["saying","found","name","weight","part"] ["saying","found"] (am s_mark_names):=⟨rfl,rfl,rfl,by decide +kernel,rfl,by decide +kernel,by decide +kernel⟩
theorem jy (F:Fd K mg "mark_names" s_mark_names ["saying","found"]) (bS:Cal P w K mg base 1 "is_row" ["saying"] (spD K (eD))) {n:Nat} (bJ:Cal P w K mg base (2 + n) "mark_names" ["saying","found"] (spO1 K (bx n))):Cal P w K mg base (2 + n + 1) "mark_names" ["saying","found"] (spO1 K (bx (n + 1))):=by
 refine CH (k:=2 + n) F cP rfl (hE (n + 1)) fun fa cdv A outer s H E oa d0 d R hr h=>?_
 have hU:=hr.units
 refine⟨_,(ad (aR (cm (aq bS (hr.mono (by omega)) rfl (ac (de_v 0) af))) (ad (gB PassesOwn.never rfl (ar au (de_v 0) ae (fun _ _=>rfl)) (bY (n:=2) rfl (aw (ap 2 cP.nd) (aw (ap 3 cP.nd) aZ))) (ag (gC 1 hU eh (de_v 2)))) (ag yA)) aD) (ag (gB PassesOwn.never rfl (jW (de_v 0) (fg ae) jg) (ap 4 cP.nd) (ag (ua (lP 1 bJ (hr.mono (by omega)) rfl (de_v 4))))))),?_⟩
 obtain ⟨names,s,ks,e,hd,ok,hl,nd,sub,rfl,q⟩:=h
 cases e
 walk_at "rd"
 refine⟨s,rfl,?_⟩
 walk_at "rd"
 cases hrow:s.isRow with
 | true =>
  cases s with
  | row k ts b =>
   refine ifp rfl ?_
   simp only [n9]
   unfold Say.D rowD
   walk_at "rd"
   have tsub:∀ t∈ts,t.1∈names:=fun t h=>ok.1.sub.subset (CM.mpr ⟨t,h,rfl⟩)
   have sub2:∀ i,∀ x∈cM ks ((ts.take i).map (·.1)),x∈names:=fun i x hx=>(dF.mp hx).elim (sub x) fun h=>by
    obtain ⟨t,h1,rfl⟩:=CM.mp h
    exact tsub t (Dd h1)
   refine⟨fun i δ=>∃ x y z,δ=[.dat (.tup [.str (kdS k),.tup (ts.map tmD),.int b]),.own oa (.dct (cM ks ((ts.take i).map (·.1))) (ju (cM ks ((ts.take i).map (·.1))).length)),x,y,z],⟨_,_,_,rfl⟩,?_,?_⟩
   ·rintro i d δ hd ⟨x,y,z,rfl⟩
    obtain ⟨t,hn,rfl⟩:=dG hd
    walk_at "rd"
    have l1:=hZ (fV (l:=(ts.take i).map (·.1)) nd) (sub2 i)
    refine⟨by omega,?_⟩
    rw [tK,aF hn,C3,fQ]
    exact⟨rfl,rfl⟩
   ·rintro δ ⟨x,y,z,rfl⟩
    rw [CK,C4]
    exact⟨_,rfl,q⟩
  | nt s=>cases hrow
  | bo s t=>cases hrow
  | ei s t=>cases hrow
 | false =>
  refine ifn Bool.false_ne_true ?_
  simp only [n9]
  rw [Say.D_subs hrow]
  walk_at "rd"
  refine⟨fun ⟨h,_⟩=>?_,?_⟩
  ·rw [show (some (1:Int))=some ((1:Nat):Int) from rfl,HT.sIx_nat] at h
   omega
  rw [uQ]
  have sub2:∀ i,∀ x∈cM ks ((s.subs.take i).flatMap Say.nms),x∈names:=fun i x hx=>(dF.mp hx).elim (sub x) fun h=>by
   obtain ⟨u,h1,h2⟩:=List.mem_flatMap.mp h
   exact Say.nms_sub (Say.subs_ok (Dd h1) ok) x h2
  refine⟨fun i δ=>∃ x y z,δ=[.dat (.tup (.str s.word :: s.subs.map Say.D)),.own oa (.dct (cM ks ((s.subs.take i).flatMap Say.nms)) (ju (cM ks ((s.subs.take i).flatMap Say.nms)).length)),x,y,z],⟨_,_,_,rfl⟩,?_,?_⟩
  ·rintro i d δ hd2 ⟨x,y,z,rfl⟩
   rw [C0] at hd2
   cases hu:s.subs[i]? with
   | none=>rw [hu] at hd2;cases hd2
   | some u =>
    rw [hu] at hd2
    cases hd2
    have hm:=C1 hu
    have dp:=Say.subs_dep hm
    walk_at "rd"
    refine⟨names,u,_,rfl,by omega,Say.subs_ok hm ok,hl,fV nd,sub2 i,rfl,?_⟩
    walk_at "rd"
    rw [aF hu,List.flatMap_append,List.flatMap_singleton,fQ]
    exact⟨rfl,rfl⟩
  ·rintro δ ⟨x,y,z,rfl⟩
   rw [CK,C4,← Say.nms_subs hrow]
   exact⟨_,rfl,q⟩
inductive eG (ds:List D) (R:D→Prop):Prop
 | mk (names s:_) (hh:ds=[Say.D s]∧s.dep≤60∧s.ok names∧names.length≤60∧∀ ss:List Str,ss.Nodup→(∀ x,x∈ss↔x∈s.nms)→Srt ss→R (.lst (ss.map D.str)))
theorem jI:∀ ds R,eG ds R→ds.length=1:=fun _ _ h_0=>by obtain ⟨_,_,e,_⟩:=h_0;rw [e];rfl
theorem je:ax ["saying","found"] ["saying"] (am s_names_of):=⟨rfl,rfl,rfl,by decide +kernel,rfl,by decide +kernel,by decide +kernel⟩
theorem lG (F:Fd K mg "names_of" s_names_of ["saying"]) (bJ:Cal P w K mg base 62 "mark_names" ["saying","found"] (spO1 K (bx 60))) (cQ:mg "sorted"=none):Cal P w K mg base 63 "names_of" ["saying"] (spD K eG):=by
 refine fn_D F je jI fun fa cdv A outer s H E ds R hr h=>?_
 have hU:=hr.units
 refine⟨_,(ad (kt 1 je.nd) (ad (ua (lP 1 bJ (rm hr) rfl (de_v 0))) (dA 1 (ag (av (ba (kQ rfl) rfl cQ kS (ac (de_v 1) af))))))),?_⟩
 obtain ⟨names,s,rfl,hd,ok,hl,q⟩:=h
 walk_at "rd"
 refine⟨names,s,[],rfl,hd,ok,by omega,List.nodup_nil,fun k h=>(nomatch h),rfl,?_⟩
 walk_at "rd"
 have nd:(cM [] s.nms).Nodup:=fV List.nodup_nil
 have sub:∀ x∈cM [] s.nms,x∈names:=fun x hx=>(dF.mp hx).elim (fun h=>(nomatch h)) (Say.nms_sub ok x)
 refine⟨by have:=hZ nd sub;omega,fun ss hp hs=>q ss (hp.nodup_iff.mpr nd) (fun x=>?_) hs⟩
 rw [hp.mem_iff,dF]
 simp
inductive f6 (ds:List D) (R:D→Prop):Prop
 | mk (names ks ps T κ:_) (hh:ds=[.lst (names.map D.str),.dct ks (ps.map frD)]∧names.Nodup∧names.length≤60∧(∀ n∈names,n∈ks)∧Pt ks ps T∧T≤1000000∧ib (bot (pB ks ps) ks)≤κ∧κ≤7990 ∧
 R (.tup [.dct names (names.map fun n=>.int (ov (pT ks ps) (pB ks ps) (bot (pB ks ps) names) n)),.int (bot (pB ks ps) names)]))
theorem ka:∀ ds R,f6 ds R→ds.length=2:=fun _ _ h_0=>by obtain ⟨_,_,_,_,_,e,_⟩:=h_0;rw [e];rfl
theorem lm {q:Str→Int} {l ks:List Str} {κ:Nat} (nd:l.Nodup) (h:∀ n∈l,n∈ks) (hp:∀ n∈ks,0 < q n) (hb:ib (bot q ks)≤κ):ib (bot q l)≤κ:=eE (nT nd h) (by have:=cV hp;omega) hb
theorem cz:ax ["names","point","bottom","name","tops","value"] ["names","point"] (am s_tops_of):=⟨rfl,rfl,rfl,by decide +kernel,rfl,by decide +kernel,by decide +kernel⟩
theorem nF (F:Fd K mg "tops_of" s_tops_of ["names","point"]):Cal P w K mg base 1 "tops_of" ["names","point"] (spD K f6):=by
 refine fn_D F cz ka fun fa cdv A outer s H E ds R hr h=>?_
 have hU:=hr.units
 refine⟨_,(ad (aA 2 cz.nd ae) (ad (cJ PassesOwn.never rfl (de_v 0) (ap 3 cz.nd) (ad (aR (aH (w9 hU) (de_v 3) (de_v 1) rfl) iC aD) (ag (aA 2 cz.nd (aC bF (de_v 2) (ar au (dN hU (de_v 1) (de_v 3) (fun _ _=>rfl)) ae (fun _ _=>rfl))))))) (ad (kt 4 cz.nd) (ad (cJ PassesOwn.never rfl (de_v 0) (ap 3 cz.nd) (ad (aA 5 cz.nd (dN hU (de_v 1) (de_v 3) (fun _ _=>rfl))) (ag (gC 4 hU (aC bF (ar au (de_v 5) ae (fun _ _=>rfl)) (aC eW (de_v 2) (ar au (de_v 5) ae (fun _ _=>rfl)))) (de_v 3))))) (dA 4 (ag (av (aG (ac (de_v 4) (ac (de_v 2) af)))))))))),?_⟩
 obtain ⟨names,ks,ps,T,κ,rfl,nd,hl,hin,hp,hT,hb,hκ,q⟩:=h
 have pos:∀ n∈ks,0 < pB ks ps n:=fun n hn=>hp.pos hn
 have bb:ib (bot (pB ks ps) names)≤κ:=lm nd hin pos hb
 have bt:∀ i,ib (bot (pB ks ps) (names.take i))≤κ:=fun i=>lm (nd.sublist (List.take_sublist ..)) (fun n hn=>hin n (Dd hn)) pos hb
 have b1:∀ n∈ks,ib (pB ks ps n)≤κ:=fun n hn=>eE (dY hn) (by have:=cV pos;omega) hb
 walk_at "rd"
 simp only [qM]
 walk_at "rd"
 refine⟨fun i δ=>∃ x y z,δ=[.dat (.lst (names.map D.str)),.dat (.dct ks (ps.map frD)),.dat (.int (bot (pB ks ps) (names.take i))),x,y,z],⟨_,_,_,rfl⟩,?_,?_⟩
 ·rintro i d δ hd ⟨x,y,z,rfl⟩
  obtain ⟨n,hn,rfl⟩:=ls hd
  have hk:=hin n (rK hn)
  walk_at "rd"
  refine ifn (fun z=>z hk) ?_
  refine⟨_,hp.D hk,?_⟩
  walk_at "rd"
  refine⟨mo2 (bt i) (b1 n hk) (by omega),?_⟩
  rw [aF hn,gI,my]
 ·rintro δ ⟨x,y,z,rfl⟩
  intro a
  rw [CK,C4]
  simp only [qM]
  walk_at "rd"
  refine⟨fun i δ=>∃ x z,δ=[.dat (.lst (names.map D.str)),.dat (.dct ks (ps.map frD)),.dat (.int (bot (pB ks ps) names)),x,.own a (.dct (names.take i) ((names.take i).map fun n=>.int (ov (pT ks ps) (pB ks ps) (bot (pB ks ps) names) n))),z],⟨_,_,rfl⟩,?_,?_⟩
  ·rintro i d δ hd ⟨x,z,rfl⟩
   obtain ⟨n,hn,rfl⟩:=ls hd
   have hk:=hin n (rK hn)
   have hnt:=uW nd hn
   walk_at "rd"
   refine⟨_,hp.D hk,?_⟩
   walk_at "rd"
   have qn:pB ks ps n≠0:=by have:=hp.pos hk;omega
   refine⟨⟨qn,qx (b1 n hk) (by omega)⟩,mo2 (hp.Tb hk) (intBits_fdiv_le bb) (by omega),?_⟩
   refine⟨by rw [De];omega,?_⟩
   rw [pE hnt,oE hnt,aF hn,C3]
   exact⟨rfl,rfl⟩
  ·rintro δ ⟨x,z,rfl⟩
   rw [CK,C4]
   walk_at "rd"
   exact q
inductive cY (ds:List D) (R:D→Prop):Prop
 | mk (k:Bool) (ts:List (Str×Int)) (ks:List Str) (vs:List D) (f:Str→Int) (hh:ds=[sq k (ts.map tmD),.dct ks vs]∧(∀ t∈ts,dAt ks vs t.1=some (.int (f t.1))∧ib t.2≤60000∧ib (f t.1)≤2000000)∧R (.int (sumT f ts)))
theorem g6:∀ ds R,cY ds R→ds.length=2:=fun _ _ h_0=>by obtain ⟨_,_,_,_,_,e,_⟩:=h_0;rw [e];rfl
theorem b9:ax ["terms","tops","top","name","weight"] ["terms","tops"] (am s_top_of_sum):=⟨rfl,rfl,rfl,by decide +kernel,rfl,by decide +kernel,by decide +kernel⟩
theorem jH (F:Fd K mg "top_of_sum" s_top_of_sum ["terms","tops"]):Cal P w K mg base 1 "top_of_sum" ["terms","tops"] (spD K cY):=by
 refine fn_D F b9 g6 fun fa cdv A outer s H E ds R hr h=>?_
 have hU:=hr.units
 refine⟨_,(ad (aA 2 b9.nd ae) (ad (gR PassesOwn.never rfl (Ct (de_v 0)) (bY (n:=2) rfl (aw (ap 3 b9.nd) (aw (ap 4 b9.nd) aZ))) (ag (aA 2 b9.nd (aC aS (de_v 2) (aC bF (de_v 4) (dN hU (de_v 1) (de_v 3) (fun _ _=>rfl))))))) (ag (av (de_v 2))))),?_⟩
 obtain ⟨k,ts,ks,vs,f,rfl,ht,q⟩:=h
 walk_at "rd"
 refine d5 fun F N hF hN=>?_
 simp only [kP]
 walk_at "rd"
 refine⟨k,ts.map tmD,rfl,fun i δ=>∃ x y,δ=[.dat (sq k (ts.map tmD)),.dat (.dct ks vs),.dat (.int (sumT f (ts.take i))),x,y],⟨_,_,rfl⟩,?_,?_⟩
 ·rintro i d δ hd ⟨x,y,rfl⟩
  obtain ⟨t,hn,rfl⟩:=dG hd
  obtain ⟨h1,h2,h3⟩:=ht t (C1 hn)
  rw [hF]
  walk_at "rd"
  refine⟨_,h1,?_⟩
  walk_at "rd"
  refine⟨mo2 h2 h3,?_⟩
  rw [aF hn,jb,pP]
 ·rintro δ ⟨x,y,rfl⟩
  rw [CK,C4,hN]
  walk_at "rd"
  exact q
def mI (k:Kd) (s b:Int):Bool:=match k with
 | .least=>decide (b≤s)
 | .more=>decide (b < s)
def Say.so (f:Str→Int) (B:Int):Say→Bool
 | .row k ts b=>mI k (sumT f ts) (b * B)
 | .nt s=>!s.so f B
 | .bo s t=>s.so f B && t.so f B
 | .ei s t=>s.so f B || t.so f B
def qp (p q:Str→Int) (k:Kd) (ts:List (Str×Int)) (b:Int):Bool:=mI k (sumT (ov p q (bot q (ts.map (·.1)))) ts) (b * bot q (ts.map (·.1)))
def Say.tv (p q:Str→Int):Say→Bool
 | .row k ts b=>qp p q k ts b
 | .nt s=>!s.tv p q
 | .bo s t=>s.tv p q && t.tv p q
 | .ei s t=>s.tv p q || t.tv p q
theorem AH {p q:Str→Int} {B:Int} {k:Kd} {ts:List (Str×Int)} {b:Int} (hB:0 < B) (h:∀ t∈ts,0 < q t.1∧q t.1 ∣ B):mI k (sumT (ov p q B) ts) (b * B)=qp p q k ts b:=by
 have hC:0 < bot q (ts.map (·.1)):=cV fun n hn=>by
  obtain ⟨t,h1,rfl⟩:=CM.mp hn
  exact (h t h1).1
 have e:=sf (p:=p) (q:=q) (B:=B) (C:=bot q (ts.map (·.1))) (ts:=ts) fun t h1=>⟨by have:=(h t h1).1;omega,(h t h1).2,dY (CM.mpr ⟨t,h1,rfl⟩)⟩
 unfold qp
 cases k with
 | least=>exact decide_eq_decide.mpr (uT (a:=0) hB hC e)
 | more=>exact decide_eq_decide.mpr (vg hB hC e)
theorem Say.so_tv {p q:Str→Int} {B:Int} (hB:0 < B):∀ {s:Say},(∀ n∈s.nms,0 < q n∧q n ∣ B)→s.so (ov p q B) B=s.tv p q
 | .row k ts b,h=>AH hB fun t h1=>h t.1 (CM.mpr ⟨t,h1,rfl⟩)
 | .nt s,h=>by show (!s.so _ _)=!s.tv p q;rw [Say.so_tv (s:=s) hB h]
 | .bo s t,h=>by
  show (s.so _ _ && t.so _ _)=(s.tv p q && t.tv p q)
  rw [Say.so_tv (s:=s) hB fun n hn=>h n (CU _ hn),Say.so_tv (s:=t) hB fun n hn=>h n (CT _ hn)]
 | .ei s t,h=>by
  show (s.so _ _ || t.so _ _)=(s.tv p q || t.tv p q)
  rw [Say.so_tv (s:=s) hB fun n hn=>h n (CU _ hn),Say.so_tv (s:=t) hB fun n hn=>h n (CT _ hn)]
inductive fE (ds:List D) (R:D→Prop):Prop
 | mk (k:Kd) (ts:List (Str×Int)) (b:Int) (ks:List Str) (vs:List D) (f:Str→Int) (B:Int) (hh:ds=[rowD k ts b,.dct ks vs,.int B]∧(∀ t∈ts,dAt ks vs t.1=some (.int (f t.1))∧ib t.2≤60000∧ib (f t.1)≤2000000)∧ib b≤60000∧ib B≤8000∧R (.bl (mI k (sumT f ts) (b * B))))
theorem iL:∀ ds R,fE ds R→ds.length=3:=fun _ _ h_0=>by obtain ⟨_,_,_,_,_,_,_,e,_⟩:=h_0;rw [e];rfl
theorem ee:ax ["row","tops","bottom","top","bound"] ["row","tops","bottom"] (am s_row_is_so):=⟨rfl,rfl,rfl,by decide +kernel,rfl,by decide +kernel,by decide +kernel⟩
theorem kL (F:Fd K mg "row_is_so" s_row_is_so ["row","tops","bottom"]) (b7:Cal P w K mg base 1 "top_of_sum" ["terms","tops"] (spD K (cY))):Cal P w K mg base 2 "row_is_so" ["row","tops","bottom"] (spD K fE):=by
 refine fn_D F ee iL fun fa cdv A outer s H E ds R hr h=>?_
 have hU:=hr.units
 refine⟨_,(ad (aA 3 ee.nd (aq b7 (rm hr) rfl (ac (ar au (de_v 0) ae (fun _ _=>rfl)) (ac (de_v 1) af)))) (ad (aA 4 ee.nd (aC bF (ar au (de_v 0) ae (fun _ _=>rfl)) (de_v 2))) (ad (aR (aH (o_eq hU) (ar au (de_v 0) ae (fun _ _=>rfl)) ay (aB _)) (ag (av (cN o_ge (de_v 3) (de_v 4) (aB _)))) aD) (ag (av (cN o_gt (de_v 3) (de_v 4) (aB _))))))),?_⟩
 obtain ⟨k,ts,b,ks,vs,f,B,rfl,ht,hb,hB,q⟩:=h
 unfold rowD
 walk_at "rd"
 refine⟨false,ts,ks,vs,f,rfl,ht,?_⟩
 walk_at "rd"
 refine⟨mo2 hb hB,?_⟩
 cases k with
 | least=>exact ifp rfl q
 | more=>exact ifn (by decide) q
inductive bB (n:Nat) (ds:List D) (R:D→Prop):Prop
 | mk (s:Say) (ks:List Str) (vs:List D) (f:Str→Int) (B:Int) (names:List Str) (hh:ds=[s.D,.dct ks vs,.int B]∧s.dep≤n∧s.ok names∧(∀ x∈s.nms,dAt ks vs x=some (.int (f x))∧Builtin.Int.intBits (f x)≤2000000)∧Builtin.Int.intBits B≤8000∧R (.bl (s.so f B)))
theorem ik (n:Nat):∀ ds R,bB n ds R→ds.length=3:=fun _ _ h_0=>by obtain ⟨_,_,_,_,_,_,e,_⟩:=h_0;rw [e];rfl
theorem gJ:∀ ds R,¬ bB 0 ds R:=fun _ _ h_0=>by obtain ⟨s,_,_,_,_,_,_,h,_⟩:=h_0;have:=s.dep_pos;omega
theorem gj:ax ["saying","tops","bottom","first"] ["saying","tops","bottom"] (am s_part_is_so):=⟨rfl,rfl,rfl,by decide +kernel,rfl,by decide +kernel,by decide +kernel⟩
theorem jC (F:Fd K mg "part_is_so" s_part_is_so ["saying","tops","bottom"]) (bS:Cal P w K mg base 1 "is_row" ["saying"] (spD K (eD))) (fG:Cal P w K mg base 2 "row_is_so" ["row","tops","bottom"] (spD K (fE))) {n:Nat} (a9:Cal P w K mg base (3 + n) "part_is_so" ["saying","tops","bottom"] (spD K (bB n))):Cal P w K mg base (3 + n + 1) "part_is_so" ["saying","tops","bottom"] (spD K (bB (n + 1))):=by
 refine fn_D (k:=3 + n) F gj (ik (n + 1)) fun fa cdv A outer s H E ds R hr h=>?_
 have hU:=hr.units
 refine⟨_,(ad (aR (cm (aq bS (hr.mono (by omega)) rfl (ac (de_v 0) af))) (ag (av (aq fG (hr.mono (by omega)) rfl (ac (de_v 0) (ac (de_v 1) (ac (de_v 2) af)))))) aD) (ad (aA 3 gj.nd (aq a9 (hr.mono (by omega)) rfl (ac (ar au (de_v 0) ae (fun _ _=>rfl)) (ac (de_v 1) (ac (de_v 2) af))))) (ad (aR (aH (o_eq hU) (ar au (de_v 0) ae (fun _ _=>rfl)) ay (aB _)) (ag (av (l6 (de_v 3)))) aD) (ad (aR (aH (o_eq hU) (ar au (de_v 0) ae (fun _ _=>rfl)) ay (aB _)) (ag (av (gS (de_v 3) (cZ (aq a9 (hr.mono (by omega)) rfl (ac (ar au (de_v 0) ae (fun _ _=>rfl)) (ac (de_v 1) (ac (de_v 2) af)))))))) aD) (ag (av (qq (de_v 3) (cZ (aq a9 (hr.mono (by omega)) rfl (ac (ar au (de_v 0) ae (fun _ _=>rfl)) (ac (de_v 1) (ac (de_v 2) af)))))))))))),?_⟩
 obtain ⟨s,ks,vs,f,B,names,rfl,hd,ok,hf,hB,q⟩:=h
 walk_at "rd"
 refine⟨s,rfl,?_⟩
 walk_at "rd"
 cases s with
 | row k ts b =>
  refine ifp rfl ⟨k,ts,b,ks,vs,f,B,rfl,fun t h1=>?_,CN ok.2 (by decide),hB,q⟩
  obtain ⟨h2,h3⟩:=hf t.1 (CM.mpr ⟨t,h1,rfl⟩)
  exact⟨h2,CN (ok.1.bits t h1) (by decide),h3⟩
 | nt s =>
  refine ifn Bool.false_ne_true ?_
  unfold Say.D
  walk_at "rd"
  have hd:s.dep + 1≤n + 1:=hd
  refine⟨s,ks,vs,f,B,names,rfl,by omega,ok,hf,hB,?_⟩
  walk_at "rd"
  exact q
 | bo s t =>
  refine ifn Bool.false_ne_true ?_
  unfold Say.D
  walk_at "rd"
  have hd:max s.dep t.dep + 1≤n + 1:=hd
  refine⟨s,ks,vs,f,B,names,rfl,by omega,ok.1,fun x h=>hf x (CU _ h),hB,?_⟩
  walk_at "rd"
  refine ifn (by decide) ?_
  have q:R (.bl (s.so f B && t.so f B)):=q
  cases e:s.so f B with
  | true =>
   rw [e,Bool.true_and] at q
   exact ifp rfl ⟨t,ks,vs,f,B,names,rfl,by omega,ok.2,fun x h=>hf x (CT _ h),hB,q⟩
  | false =>
   rw [e,Bool.false_and] at q
   exact ifn Bool.false_ne_true q
 | ei s t =>
  refine ifn Bool.false_ne_true ?_
  unfold Say.D
  walk_at "rd"
  have hd:max s.dep t.dep + 1≤n + 1:=hd
  refine⟨s,ks,vs,f,B,names,rfl,by omega,ok.1,fun x h=>hf x (CU _ h),hB,?_⟩
  walk_at "rd"
  refine ifn (by decide) (ifn (by decide) ?_)
  have q:R (.bl (s.so f B || t.so f B)):=q
  cases e:s.so f B with
  | true =>
   rw [e,Bool.true_or] at q
   exact ifp rfl q
  | false =>
   rw [e,Bool.false_or] at q
   exact ifn Bool.false_ne_true ⟨t,ks,vs,f,B,names,rfl,by omega,ok.2,fun x h=>hf x (CT _ h),hB,q⟩
inductive nS (ds:List D) (R:D→Prop):Prop
 | mk (s:Say) (ks:List Str) (ps:List (Int×Int)) (names:List Str) (T κ:Nat) (hh:ds=[s.D,.dct ks (ps.map frD)]∧s.dep≤60∧s.ok names∧names.length≤60∧(∀ x∈s.nms,x∈ks)∧Pt ks ps T∧T≤1000000∧ib (bot (pB ks ps) ks)≤κ∧κ≤7990∧R (.bl (s.tv (pT ks ps) (pB ks ps))))
theorem ni:∀ ds R,nS ds R→ds.length=2:=fun _ _ h_0=>by obtain ⟨_,_,_,_,_,_,e,_⟩:=h_0;rw [e];rfl
theorem pL:ax ["saying","point","known"] ["saying","point"] (am s_is_so):=⟨rfl,rfl,rfl,by decide +kernel,rfl,by decide +kernel,by decide +kernel⟩
theorem t6 (F:Fd K mg "is_so" s_is_so ["saying","point"]) (dy:Cal P w K mg base 1 "tops_of" ["names","point"] (spD K (f6))) (cT:Cal P w K mg base 63 "names_of" ["saying"] (spD K (eG))) (a9:Cal P w K mg base 63 "part_is_so" ["saying","tops","bottom"] (spD K (bB 60))):Cal P w K mg base 64 "is_so" ["saying","point"] (spD K nS):=by
 refine fn_D F pL ni fun fa cdv A outer s H E ds R hr h=>?_
 have hU:=hr.units
 refine⟨_,(ad (aA 2 pL.nd (aq dy (rm hr) rfl (ac (aq cT (rm hr) rfl (ac (de_v 0) af)) (ac (de_v 1) af)))) (ag (av (aq a9 (rm hr) rfl (ac (de_v 0) (ac (ar au (de_v 2) ae (fun _ _=>rfl)) (ac (ar au (de_v 2) ae (fun _ _=>rfl)) af))))))),?_⟩
 obtain ⟨s,ks,ps,names,T,κ,rfl,hd,ok,hl,hin,hp,hT,hb,hκ,q⟩:=h
 walk_at "rd"
 refine⟨names,s,rfl,hd,ok,hl,fun ss nd hm hs=>?_⟩
 have hs2:∀ n∈ss,n∈ks:=fun n hn=>hin n ((hm n).mp hn)
 have l60:ss.length≤60:=CN (hZ nd fun k hk=>Say.nms_sub ok k ((hm k).mp hk)) hl
 refine⟨ss,ks,ps,T,κ,rfl,nd,by omega,hs2,hp,hT,hb,hκ,?_⟩
 walk_at "rd"
 have bp:=cV (q:=pB ks ps) (l:=ss) fun n hn=>hp.pos (hs2 n hn)
 have bb:=lm (q:=pB ks ps) nd hs2 (fun n hn=>hp.pos hn) hb
 refine⟨s,ss,_,_,_,names,rfl,hd,ok,fun x hx=>⟨cR (fun n=>D.int (ov (pT ks ps) (pB ks ps) (bot (pB ks ps) ss) n)) ((hm x).mpr hx),CN (intBits_mul_le (hp.Tb (hin x hx)) (intBits_fdiv_le bb)) (by omega)⟩,CN bb (by omega),?_⟩
 rw [Say.so_tv bp fun n hn=>⟨hp.pos (hin n hn),dY ((hm n).mpr hn)⟩]
 exact q
def _root_.Mf.Kd.op:Kd→Kd
 | .least=>.more
 | .more=>.least
def opps:List (Str×Str):=[("least","more"),("more","least"),("both","either"),("either","both")]
theorem Al (k:Kd):PyProof.Rows.KTD.datumAt (kdS k) opps=some (kdS k.op):=by cases k<;>decide
def conD (k:Kd) (ts:List (Str×Int)) (b:Int):D:=rowD k.op (negT ts) (-b)
inductive gE (ds:List D) (R:D→Prop):Prop
 | mk (k:Kd) (ts:List (Str×Int)) (b:Int) (hh:ds=[rowD k ts b]∧ts.length≤100∧R (conD k ts b))
theorem jr:∀ ds R,gE ds R→ds.length=1:=fun _ _ h_0=>by obtain ⟨_,_,_,e,_⟩:=h_0;rw [e];rfl
theorem iT:ax ["row","terms"] ["row"] (am s_contrary):=⟨rfl,rfl,rfl,by decide +kernel,rfl,by decide +kernel,by decide +kernel⟩
theorem lE (F:Fd K mg "contrary" s_contrary ["row"]) (aK:mg "tuple"=none) (g_OPPOSITES:GTab K mg "OPPOSITES" [("least","more"),("more","least"),("both","either"),("either","both")]):Cal P w K mg base 1 "contrary" ["row"] (spD K gE):=by
 refine fn_D F iT jr fun fa cdv A outer s H E ds R hr h=>?_
 have hU:=hr.units
 refine⟨_,(ad (aA 1 iT.nd (cF fe rfl aK cB (ac (cy ["name","weight"] [] rfl rfl (by decide +kernel) rfl (by decide +kernel) (bR trivial) (bZ rfl) (bn trivial) (lH (ar au (de_v 0) ae (fun _ _=>rfl))) fun _ _ _ _ _=>⟨(bY (n:=2) rfl (aw (ap 0 (show List.Nodup (["name","weight"]:List Str) by decide +kernel)) (aw (ap 1 (show List.Nodup (["name","weight"]:List Str) by decide +kernel)) aZ))),dQ,(aG (ac (de_v 0) (ac (vk uv (de_v 1)) af)))⟩) af))) (ag (av (aG (ac (sS rfl g_OPPOSITES (ar au (de_v 0) ae (fun _ _=>rfl)) (fun _ _=>rfl)) (ac (de_v 1) (ac (vk uv (ar au (de_v 0) ae (fun _ _=>rfl))) af))))))),?_⟩
 obtain ⟨k,ts,b,rfl,hl,q⟩:=h
 unfold rowD
 walk_at "rd"
 refine⟨by rw [CK];omega,fun d=>match d with | .tup [.str n,.int w]=>some (.tup [.str n,.int (-w)]) | _=>none,fun x hx=>?_,?_⟩
 ·obtain ⟨t,_,rfl⟩:=CM.mp hx
  unfold tmD
  walk_at "rd"
 ·rw [aN _ tmD (fun t=>D.tup [.str t.1,.int (-t.2)]) _ (by intro _ _;rfl)]
  refine⟨_,Al k,?_⟩
  unfold conD rowD negT at q
  rw [List.map_map] at q
  exact q
def Say.pl:Say→Bool→Say
 | .row k ts b,t=>if t=true then .row k.op (negT ts) (-b) else .row k ts b
 | .nt s,t=>s.pl (!t)
 | .bo s u,t=>if t=true then .ei (s.pl t) (u.pl t) else .bo (s.pl t) (u.pl t)
 | .ei s u,t=>if t=true then .bo (s.pl t) (u.pl t) else .ei (s.pl t) (u.pl t)
inductive bq (n:Nat) (ds:List D) (R:D→Prop):Prop
 | mk (s:Say) (t:Bool) (names:List Str) (hh:ds=[s.D,.bl t]∧s.dep≤n∧s.ok names∧names.length≤100∧R (s.pl t).D)
theorem hV (n:Nat):∀ ds R,bq n ds R→ds.length=2:=fun _ _ h_0=>by obtain ⟨_,_,_,e,_⟩:=h_0;rw [e];rfl
theorem gy:∀ ds R,¬ bq 0 ds R:=fun _ _ h_0=>by obtain ⟨s,_,_,_,h,_⟩:=h_0;have:=s.dep_pos;omega
theorem uf {names:List Str} {ts:List (Str×Int)} (h:jE names ts):ts.length≤names.length:=by have:=h.sub.length_le;rw [CK] at this;exact this
theorem fX:ax ["saying","turned","word"] ["saying","turned"] (am s_plain_part):=⟨rfl,rfl,rfl,by decide +kernel,rfl,by decide +kernel,by decide +kernel⟩
theorem jt (F:Fd K mg "plain_part" s_plain_part ["saying","turned"]) (bS:Cal P w K mg base 1 "is_row" ["saying"] (spD K (eD))) (gH:Cal P w K mg base 1 "contrary" ["row"] (spD K (gE))) (g_OPPOSITES:GTab K mg "OPPOSITES" [("least","more"),("more","least"),("both","either"),("either","both")]) {n:Nat} (bg:Cal P w K mg base (2 + n) "plain_part" ["saying","turned"] (spD K (bq n))):Cal P w K mg base (2 + n + 1) "plain_part" ["saying","turned"] (spD K (bq (n + 1))):=by
 refine fn_D (k:=2 + n) F fX (hV (n + 1)) fun fa cdv A outer s H E ds R hr h=>?_
 have hU:=hr.units
 refine⟨_,(ad (aR (aH (o_eq hU) (ar au (de_v 0) ae (fun _ _=>rfl)) ay (aB _)) (ag (av (aq bg (hr.mono (by omega)) rfl (ac (ar au (de_v 0) ae (fun _ _=>rfl)) (ac (l6 (de_v 1)) af))))) aD) (ad (aR (cm (aq bS (hr.mono (by omega)) rfl (ac (de_v 0) af))) (ag (av (sK (cm (de_v 1)) (aq gH (hr.mono (by omega)) rfl (ac (de_v 0) af)) (de_v 0)))) aD) (ad (aA 2 fX.nd (sK (cm (de_v 1)) (sS rfl g_OPPOSITES (ar au (de_v 0) ae (fun _ _=>rfl)) (fun _ _=>rfl)) (ar au (de_v 0) ae (fun _ _=>rfl)))) (ag (av (aG (ac (de_v 2) (ac (aq bg (hr.mono (by omega)) rfl (ac (ar au (de_v 0) ae (fun _ _=>rfl)) (ac (de_v 1) af))) (ac (aq bg (hr.mono (by omega)) rfl (ac (ar au (de_v 0) ae (fun _ _=>rfl)) (ac (de_v 1) af))) af))))))))),?_⟩
 obtain ⟨s,t,names,rfl,hd,ok,hl,q⟩:=h
 cases s with
 | row k ts b =>
  have hts:=uf ok.1
  have hnot:¬ kdS k=Str.ofString "not":=by cases k<;>decide
  unfold Say.D rowD
  walk_at "rd"
  refine ifn hnot ⟨.row k ts b,rfl,?_⟩
  walk_at "rd"
  refine ifp rfl ?_
  cases t with
  | true=>exact ifp rfl ⟨k,ts,b,rfl,by omega,q⟩
  | false=>exact ifn Bool.false_ne_true q
 | nt s =>
  unfold Say.D
  walk_at "rd"
  have hd:s.dep + 1≤n + 1:=hd
  exact⟨s,!t,names,rfl,by omega,ok,hl,q⟩
 | bo s u =>
  unfold Say.D
  walk_at "rd"
  have hd:max s.dep u.dep + 1≤n + 1:=hd
  refine ifn (by decide) ⟨.bo s u,rfl,?_⟩
  walk_at "rd"
  refine ifn Bool.false_ne_true ?_
  cases t with
  | true =>
   refine ifp rfl ⟨"either",by decide,?_⟩
   refine⟨s,true,names,rfl,by omega,ok.1,hl,?_⟩
   refine⟨u,true,names,rfl,by omega,ok.2,hl,?_⟩
   exact q
  | false =>
   refine ifn Bool.false_ne_true ?_
   refine⟨s,false,names,rfl,by omega,ok.1,hl,?_⟩
   refine⟨u,false,names,rfl,by omega,ok.2,hl,?_⟩
   exact q
 | ei s u =>
  unfold Say.D
  walk_at "rd"
  have hd:max s.dep u.dep + 1≤n + 1:=hd
  refine ifn (by decide) ⟨.ei s u,rfl,?_⟩
  walk_at "rd"
  refine ifn Bool.false_ne_true ?_
  cases t with
  | true =>
   refine ifp rfl ⟨"both",by decide,?_⟩
   refine⟨s,true,names,rfl,by omega,ok.1,hl,?_⟩
   refine⟨u,true,names,rfl,by omega,ok.2,hl,?_⟩
   exact q
  | false =>
   refine ifn Bool.false_ne_true ?_
   refine⟨s,false,names,rfl,by omega,ok.1,hl,?_⟩
   refine⟨u,false,names,rfl,by omega,ok.2,hl,?_⟩
   exact q
inductive mz (ds:List D) (R:D→Prop):Prop
 | mk (s:Say) (names:List Str) (hh:ds=[s.D]∧s.dep≤60∧s.ok names∧names.length≤100∧R (s.pl false).D)
theorem m7:∀ ds R,mz ds R→ds.length=1:=fun _ _ h_0=>by obtain ⟨_,_,e,_⟩:=h_0;rw [e];rfl
theorem vI:ax ["saying"] ["saying"] (am s_plain):=⟨rfl,rfl,rfl,by decide +kernel,rfl,by decide +kernel,by decide +kernel⟩
theorem rA (F:Fd K mg "plain" s_plain ["saying"]) (bg:Cal P w K mg base 62 "plain_part" ["saying","turned"] (spD K (bq 60))):Cal P w K mg base 63 "plain" ["saying"] (spD K mz):=by
 refine fn_D F vI m7 fun fa cdv A outer s H E ds R hr h=>?_
 have hU:=hr.units
 refine⟨_,(ag (av (aq bg (rm hr) rfl (ac (de_v 0) (ac eh af))))),?_⟩
 obtain ⟨s,names,rfl,hd,ok,hl,q⟩:=h
 walk_at "rd"
 exact⟨s,false,names,rfl,hd,ok,hl,q⟩
theorem qS (ts:List (Str×Int)):(negT ts).map (·.1)=ts.map (·.1):=by unfold negT;rw [List.map_map];rfl
theorem qJ {names:List Str} {ts:List (Str×Int)} (h:jE names ts):jE names (negT ts):=by
 refine⟨by rw [qS];exact h.sub,fun t ht=>?_,fun t ht=>?_⟩
 ·obtain ⟨u,hu,rfl⟩:=CM.mp ht
  have:=h.nz u hu
  show -u.2≠0
  omega
 ·obtain ⟨u,hu,rfl⟩:=CM.mp ht
  exact intBits_neg_le (h.bits u hu)
theorem Say.pl_ok {names:List Str}:∀ {s:Say} {t:Bool},s.ok names→(s.pl t).ok names
 | .row k ts b,true,h=>⟨qJ h.1,intBits_neg_le h.2⟩
 | .row k ts b,false,h=>h
 | .nt s,t,h=>Say.pl_ok (s:=s) h
 | .bo s u,true,h=>⟨Say.pl_ok h.1,Say.pl_ok h.2⟩
 | .bo s u,false,h=>⟨Say.pl_ok h.1,Say.pl_ok h.2⟩
 | .ei s u,true,h=>⟨Say.pl_ok h.1,Say.pl_ok h.2⟩
 | .ei s u,false,h=>⟨Say.pl_ok h.1,Say.pl_ok h.2⟩
theorem Say.pl_dep:∀ {s:Say} {t:Bool},(s.pl t).dep≤s.dep
 | .row k ts b,true=>Nat.le_refl _
 | .row k ts b,false=>Nat.le_refl _
 | .nt s,t=>Nat.le_succ_of_le (Say.pl_dep (s:=s))
 | .bo s u,true=>by have:=Say.pl_dep (s:=s) (t:=true);have:=Say.pl_dep (s:=u) (t:=true);show max _ _ + 1≤max _ _ + 1;omega
 | .bo s u,false=>by have:=Say.pl_dep (s:=s) (t:=false);have:=Say.pl_dep (s:=u) (t:=false);show max _ _ + 1≤max _ _ + 1;omega
 | .ei s u,true=>by have:=Say.pl_dep (s:=s) (t:=true);have:=Say.pl_dep (s:=u) (t:=true);show max _ _ + 1≤max _ _ + 1;omega
 | .ei s u,false=>by have:=Say.pl_dep (s:=s) (t:=false);have:=Say.pl_dep (s:=u) (t:=false);show max _ _ + 1≤max _ _ + 1;omega
def dD (ns:List Int) (k:Int):Int:=ns.getD k.toNat 0
inductive fi (ds:List D) (R:D→Prop):Prop
 | mk (ns:List Int) (k:Int) (hh:ds=[.fz (ns.map D.int),.int k]∧0≤k∧R (.int (dD ns k)))
theorem iI:∀ ds R,fi ds R→ds.length=2:=fun _ _ h_0=>by obtain ⟨_,_,e,_⟩:=h_0;rw [e];rfl
theorem vZ {α:Type} {xs:List α} {k:Int} (h0:0≤k) (h:k < xs.length):atI xs k=xs[k.toNat]?:=by
 unfold atI ixN
 rw [if_pos h0,if_pos h]
 rfl
theorem lN:ax ["_law_script","_law_k"] ["_law_script","_law_k"] (am s__law_cell):=⟨rfl,rfl,rfl,by decide +kernel,rfl,by decide +kernel,by decide +kernel⟩
theorem j9 (F:Fd K mg "_law_cell" s__law_cell ["_law_script","_law_k"]) (cA:mg "len"=none):Cal P w K mg base 1 "_law_cell" ["_law_script","_law_k"] (spD K fi):=by
 refine fn_D F lN iI fun fa cdv A outer s H E ds R hr h=>?_
 have hU:=hr.units
 refine⟨_,(ad (aR (aH o_lt (de_v 1) (ba h9 rfl cA gD (ac (de_v 0) af)) (aB _)) (ag (av (ar au (de_v 0) (de_v 1) (fun _ _=>rfl)))) aD) (ag (av ae))),?_⟩
 obtain ⟨ns,k,rfl,h0,q⟩:=h
 walk_at "rd"
 refine ite2 (fun c=>?_) (fun c=>?_)
 ·rw [CK] at c
  refine⟨.int (dD ns k),?_,q⟩
  rw [vZ h0 (by rw [CK];exact c),C0]
  have:k.toNat < ns.length:=by omega
  unfold dD
  rw [List.getD_eq_getElem?_getD,Dk this]
  rfl
 ·rw [CK] at c
  have:ns.length≤k.toNat:=by omega
  unfold dD at q
  rw [List.getD_eq_getElem?_getD,List.getElem?_eq_none this] at q
  exact q
theorem wI {α:Type} {xs:List α} {k:Nat}:cut xs none (some (k:Int))=xs.take k:=by
 unfold cut
 rw [HT.sIx_none,HT.sIx_nat,List.drop_zero,Nat.sub_zero]
 by_cases h:k≤xs.length
 ·rw [Nat.min_eq_left h]
 ·rw [Nat.min_eq_right (by omega),C4,List.take_of_length_le (by omega)]
def Say.cs:Say→List (List Say)
 | .row k ts b=>[[.row k ts b]]
 | .nt _=>[]
 | .bo s t=>s.cs.flatMap fun c=>t.cs.map fun d=>c++d
 | .ei s t=>s.cs++t.cs
def Say.pn:Say→Bool
 | .row _ _ _=>true
 | .nt _=>false
 | .bo s t=>s.pn && t.pn
 | .ei s t=>s.pn && t.pn
def Say.num:Say→Nat
 | .bo s t=>s.num * t.num
 | .ei s t=>s.num + t.num
 | _=>1
def Say.long:Say→Nat
 | .bo s t=>s.long + t.long
 | .ei s t=>max s.long t.long
 | _=>1
theorem Say.num_pos:∀ s:Say,0 < s.num
 | .row _ _ _=>Nat.one_pos
 | .nt _=>Nat.one_pos
 | .bo s t=>Nat.mul_pos s.num_pos t.num_pos
 | .ei s t=>Nat.add_pos_left s.num_pos _
theorem Say.long_pos:∀ s:Say,0 < s.long
 | .row _ _ _=>Nat.one_pos
 | .nt _=>Nat.one_pos
 | .bo s t=>Nat.add_pos_left s.long_pos _
 | .ei s t=>by have:=s.long_pos;show 0 < max s.long t.long;omega
theorem t9 {α β γ:Type} (f:α→β→γ) (m:List β):∀ l:List α,(l.flatMap fun c=>m.map fun d=>f c d).length=l.length * m.length
 | []=>(Nat.zero_mul _).symm
 | c :: l=>by rw [List.flatMap_cons,CW,CK,t9 f m l,CZ,Nat.succ_mul,Nat.add_comm]
theorem Say.cs_num:∀ {s:Say},s.pn=true→s.cs.length=s.num
 | .row _ _ _,_=>rfl
 | .bo s t,h=>by
  obtain ⟨h1,h2⟩:=Dh.mp h
  show (s.cs.flatMap fun c=>t.cs.map fun d=>c++d).length=s.num * t.num
  rw [t9,Say.cs_num h1,Say.cs_num h2]
 | .ei s t,h=>by
  obtain ⟨h1,h2⟩:=Dh.mp h
  show (s.cs++t.cs).length=s.num + t.num
  rw [CW,Say.cs_num h1,Say.cs_num h2]
theorem Say.cs_long:∀ {s:Say},s.pn=true→∀ c∈s.cs,c.length≤s.long
 | .row _ _ _,_,c,h=>by rw [C2.mp h];exact Nat.le_refl 1
 | .bo s t,h,c,hc=>by
  obtain ⟨h1,h2⟩:=Dh.mp h
  obtain ⟨x,hx,hy⟩:=List.mem_flatMap.mp hc
  obtain ⟨y,hz,rfl⟩:=CM.mp hy
  have:=Say.cs_long h1 x hx
  have:=Say.cs_long h2 y hz
  rw [CW]
  show _≤s.long + t.long
  omega
 | .ei s t,h,c,hc=>by
  obtain ⟨h1,h2⟩:=Dh.mp h
  show _≤max s.long t.long
  rcases CV.mp hc with hc | hc
  ·have:=Say.cs_long h1 c hc;omega
  ·have:=Say.cs_long h2 c hc;omega
theorem Say.pl_pn:∀ {s:Say} {t:Bool},(s.pl t).pn=true
 | .row k ts b,true=>rfl
 | .row k ts b,false=>rfl
 | .nt s,t=>Say.pl_pn (s:=s)
 | .bo s u,true=>by show ((s.pl true).pn && (u.pl true).pn)=true;rw [Say.pl_pn,Say.pl_pn];rfl
 | .bo s u,false=>by show ((s.pl false).pn && (u.pl false).pn)=true;rw [Say.pl_pn,Say.pl_pn];rfl
 | .ei s u,true=>by show ((s.pl true).pn && (u.pl true).pn)=true;rw [Say.pl_pn,Say.pl_pn];rfl
 | .ei s u,false=>by show ((s.pl false).pn && (u.pl false).pn)=true;rw [Say.pl_pn,Say.pl_pn];rfl
def dS (c:List Say):D:=.lst (c.map Say.D)
def csD (cs:List (List Say)):D:=.lst (cs.map dS)
inductive du (ds:List D) (R:D→Prop):Prop
 | mk (A B:List (List Say)) (hh:ds=[csD A,csD B]∧A.length≤20∧B.length≤20∧(∀ c∈A,c.length≤20)∧(∀ c∈B,c.length≤20)∧R (csD (A.flatMap fun c=>B.map fun d=>c++d)))
theorem f9:∀ ds R,du ds R→ds.length=2:=fun _ _ h_0=>by obtain ⟨_,_,e,_⟩:=h_0;rw [e];rfl
theorem v7 {cs:List (List Say)} {i:Nat} {d:D} (h:(cs.map dS)[i]?=some d):∃ c,cs[i]?=some c∧d=.lst (c.map Say.D):=by
 rw [C0] at h
 cases e:cs[i]? with
 | none=>rw [e] at h;cases h
 | some n=>rw [e] at h;exact⟨n,rfl,(Option.some.inj h).symm⟩
theorem ci:ax ["one","other","told","first","second"] ["one","other"] (am s_put_together):=⟨rfl,rfl,rfl,by decide +kernel,rfl,by decide +kernel,by decide +kernel⟩
theorem ip (F:Fd K mg "put_together" s_put_together ["one","other"]):Cal P w K mg base 1 "put_together" ["one","other"] (spD K du):=by
 refine fn_D F ci f9 fun fa cdv A outer s H E ds R hr h=>?_
 have hU:=hr.units
 refine⟨_,(ad (et 2 ci.nd af) (ad (cJ PassesOwn.never rfl (de_v 0) (ap 3 ci.nd) (ag (cJ PassesOwn.never rfl (de_v 1) (ap 4 ci.nd) (ag (bN 2 (aC aS (de_v 3) (de_v 4))))))) (ag (kw 2)))),?_⟩
 obtain ⟨A,B,rfl,hA,hB,lA,lB,q⟩:=h
 unfold csD at q ⊢
 walk_at "rd"
 intro a
 simp only [qM]
 walk_at "rd"
 have fl:∀ i,((A.take i).flatMap fun c=>B.map fun d=>c++d).length≤400:=fun i=>by
  rw [t9,De]
  exact Nat.mul_le_mul (show min i A.length≤20 by omega) hB
 refine⟨fun i δ=>∃ x y,δ=[.dat (.lst (A.map dS)),.dat (.lst (B.map dS)),.own a (.lst (((A.take i).flatMap fun c=>B.map fun d=>c++d).map dS)),x,y],⟨_,_,rfl⟩,?_,?_⟩
 ·rintro i d δ hd ⟨x,y,rfl⟩
  obtain ⟨c,hc,rfl⟩:=v7 hd
  have hcl:=lA c (C1 hc)
  have hfl:=fl i
  walk_at "rd"
  refine⟨fun j δ=>∃ x,δ=[.dat (.lst (A.map dS)),.dat (.lst (B.map dS)),.own a (.lst (((A.take i).flatMap (fun c=>B.map fun d=>c++d)++(B.take j).map fun d=>c++d).map dS)),.dat (.lst (c.map Say.D)),x],⟨_,by rw [List.take_zero,List.map_nil,List.append_nil]⟩,?_,?_⟩
  ·rintro j d δ hd ⟨x,rfl⟩
   obtain ⟨e,he,rfl⟩:=v7 hd
   have hel:=lB e (C1 he)
   walk_at "rd"
   refine⟨by simp only [CK];omega,by simp only [CK,CW,De];omega,?_⟩
   rw [aF he,C3,C3,C3]
   simp only [dS,C3,List.map_cons,List.map_nil,List.append_assoc]
  ·rintro δ ⟨x,rfl⟩
   rw [CK,C4]
   rw [aF hc,List.flatMap_append,List.flatMap_singleton]
   exact⟨_,_,rfl⟩
 ·rintro δ ⟨x,y,rfl⟩
  rw [CK,C4]
  walk_at "rd"
  exact q
inductive aV (n:Nat) (ds:List D) (R:D→Prop):Prop
 | mk (s:Say) (w:D) (hh:ds=[s.D,w]∧s.dep≤n∧s.pn=true∧s.num≤4∧s.long≤3∧R (csD s.cs))
theorem fW (n:Nat):∀ ds R,aV n ds R→ds.length=2:=fun _ _ h_0=>by obtain ⟨_,_,e,_⟩:=h_0;rw [e];rfl
theorem fh:∀ ds R,¬ aV 0 ds R:=fun _ _ h_0=>by obtain ⟨s,_,_,h,_⟩:=h_0;have:=s.dep_pos;omega
theorem ue {cs:List (List Say)} {P:Prop} (h4:cs.length≤4) (h3:∀ c∈cs,c.length≤3) (h0:0 < cs.length) (q:P):¬ (4:Int) < (cs.map dS).length∧(cs.map dS).length≤9000∧∃ f:D→Option D,(∀ x∈cs.map dS,fLen [x] fun d=>f x=some d)∧∃ ns:List Int,(cs.map dS).filterMap f=ns.map D.int∧0 < ns.length∧∀ M∈ns,(∀ a∈ns,a≤M)→if 3 < M then False else P:=by
 refine⟨by rw [CK];omega,by rw [CK];omega,fun d=>match d with | .lst l=>some (.int l.length) | _=>none,fun x hx=>?_,cs.map fun c=>(c.length:Int),?_,by rw [CK];exact h0,fun M hM _=>?_⟩
 ·obtain ⟨c,_,rfl⟩:=CM.mp hx
  rfl
 ·rw [aN _ dS (fun c=>D.int (c.length:Int)) _ (by intro c _;show some (D.int ((c.map Say.D).length:Int))=_;rw [CK]),List.map_map];rfl
 ·obtain ⟨c,hc,rfl⟩:=CM.mp hM
  have:=h3 c hc
  exact ifn (by omega) q
theorem Say.cs_pos {s:Say} (h:s.pn=true):0 < s.cs.length:=by rw [Say.cs_num h];exact s.num_pos
theorem ce:ax ["part","whole","one","other","told"] ["part","whole"] (am s_cases_within):=⟨rfl,rfl,rfl,by decide +kernel,rfl,by decide +kernel,by decide +kernel⟩
theorem hG (F:Fd K mg "cases_within" s_cases_within ["part","whole"]) (bS:Cal P w K mg base 1 "is_row" ["saying"] (spD K (eD))) (dm:Cal P w K mg base 1 "put_together" ["one","other"] (spD K (du))) (wW:mg "max"=none) (cA:mg "len"=none) (g_MOST_ROWS:GInt mg "MOST_ROWS" 3) (g_MOST_CASES:GInt mg "MOST_CASES" 4) {n:Nat} (aU:Cal P w K mg base (2 + n) "cases_within" ["part","whole"] (spD K (aV n))):Cal P w K mg base (2 + n + 1) "cases_within" ["part","whole"] (spD K (aV (n + 1))):=by
 refine fn_D (k:=2 + n) F ce (fW (n + 1)) fun fa cdv A outer s H E ds R hr h=>?_
 have hU:=hr.units
 refine⟨_,(ad (aR (cm (aq bS (hr.mono (by omega)) rfl (ac (de_v 0) af))) (ag (av (b6 (ac (b6 (ac (de_v 0) af)) af)))) aD) (ad (aA 2 ce.nd (aq aU (hr.mono (by omega)) rfl (ac (ar au (de_v 0) ae (fun _ _=>rfl)) (ac (de_v 1) af)))) (ad (aA 3 ce.nd (aq aU (hr.mono (by omega)) rfl (ac (ar au (de_v 0) ae (fun _ _=>rfl)) (ac (de_v 1) af)))) (ad (aA 4 ce.nd (sK (aH (o_eq hU) (ar au (de_v 0) ae (fun _ _=>rfl)) ay (aB _)) (aq dm (hr.mono (by omega)) rfl (ac (de_v 2) (ac (de_v 3) af))) (aC aS (de_v 2) (de_v 3)))) (ad (aR (DW.dt (jB (aH o_gt (ba h9 rfl cA gD (ac (de_v 4) af)) (rF rfl g_MOST_CASES) (aB _)) (eS (aH o_gt (ba (Ce rfl) rfl wW CB (ac (cy ["case"] [] rfl rfl (by decide +kernel) rfl (by decide +kernel) (bR trivial) (bZ rfl) (bn trivial) (fP (de_v 4)) fun _ _ _ _ _=>⟨(ap 0 (show List.Nodup (["case"]:List Str) by decide +kernel)),dQ,(ba h9 rfl cA gD (ac (de_v 0) af))⟩) af)) (rF rfl g_MOST_ROWS) (aB _))))) iC aD) (ag (av (de_v 4)))))))),?_⟩
 obtain ⟨s,w,rfl,hd,hp,hn,hl,q⟩:=h
 walk_at "rd"
 refine⟨s,rfl,?_⟩
 walk_at "rd"
 cases s with
 | nt s=>cases hp
 | row k ts b=>exact ifp rfl q
 | bo s t =>
  refine ifn Bool.false_ne_true ?_
  unfold Say.D
  walk_at "rd"
  obtain ⟨p1,p2⟩:=Dh.mp hp
  have hd:max s.dep t.dep + 1≤n + 1:=hd
  have hn2:s.num * t.num≤4:=hn
  have hl2:s.long + t.long≤3:=hl
  have ns1:s.num≤4:=CN (Nat.le_mul_of_pos_right _ t.num_pos) hn2
  have ns2:t.num≤4:=CN (Nat.le_mul_of_pos_left _ s.num_pos) hn2
  refine⟨s,w,rfl,by omega,p1,ns1,by omega,?_⟩
  refine⟨t,w,rfl,by omega,p2,ns2,by omega,?_⟩
  refine⟨s.cs,t.cs,rfl,by rw [Say.cs_num p1];omega,by rw [Say.cs_num p2];omega,fun c hc=>by have:=Say.cs_long p1 c hc;omega,fun c hc=>by have:=Say.cs_long p2 c hc;omega,?_⟩
  have h4:(Say.bo s t).cs.length≤4:=by rw [Say.cs_num hp];exact hn
  have h3:∀ c∈(Say.bo s t).cs,c.length≤3:=fun c hc=>CN (Say.cs_long hp c hc) hl
  obtain ⟨e1,e2⟩:=ue h4 h3 (Say.cs_pos hp) q
  show fLen [csD (Say.bo s t).cs] _
  unfold csD
  walk_at "rd"
  exact ifn e1 e2
 | ei s t =>
  refine ifn Bool.false_ne_true ?_
  unfold Say.D
  walk_at "rd"
  obtain ⟨p1,p2⟩:=Dh.mp hp
  have hd:max s.dep t.dep + 1≤n + 1:=hd
  have hn2:s.num + t.num≤4:=hn
  have hl2:max s.long t.long≤3:=hl
  refine⟨s,w,rfl,by omega,p1,by omega,by omega,?_⟩
  refine⟨t,w,rfl,by omega,p2,by omega,by omega,?_⟩
  have h4:(Say.ei s t).cs.length≤4:=by rw [Say.cs_num hp];exact hn
  have h3:∀ c∈(Say.ei s t).cs,c.length≤3:=fun c hc=>CN (Say.cs_long hp c hc) hl
  obtain ⟨e1,e2⟩:=ue h4 h3 (Say.cs_pos hp) q
  unfold csD
  walk_at "rd"
  refine ifn (by decide) ?_
  have e0:s.cs.map dS++t.cs.map dS=(Say.ei s t).cs.map dS:=(C3 ..).symm
  rw [e0]
  have h5:s.cs.length + t.cs.length≤4:=by rw [← CW];exact h4
  refine⟨by rw [CK,CK];omega,?_⟩
  exact ifn e1 e2
inductive mG (ds:List D) (R:D→Prop):Prop
 | mk (s:Say) (names:List Str) (hh:ds=[s.D]∧s.dep≤60∧s.ok names∧names.length≤100∧(s.pl false).num≤4∧(s.pl false).long≤3∧R (csD (s.pl false).cs))
theorem nk:∀ ds R,mG ds R→ds.length=1:=fun _ _ h_0=>by obtain ⟨_,_,e,_⟩:=h_0;rw [e];rfl
theorem u8:ax ["saying"] ["saying"] (am s_cases):=⟨rfl,rfl,rfl,by decide +kernel,rfl,by decide +kernel,by decide +kernel⟩
theorem rW (F:Fd K mg "cases" s_cases ["saying"]) (aU:Cal P w K mg base 62 "cases_within" ["part","whole"] (spD K (aV 60))) (mZ:Cal P w K mg base 63 "plain" ["saying"] (spD K (mz))):Cal P w K mg base 64 "cases" ["saying"] (spD K mG):=by
 refine fn_D F u8 nk fun fa cdv A outer s H E ds R hr h=>?_
 have hU:=hr.units
 refine⟨_,(ag (av (aq aU (rm hr) rfl (ac (aq mZ (rm hr) rfl (ac (de_v 0) af)) (ac (de_v 0) af))))),?_⟩
 obtain ⟨s,names,rfl,hd,ok,hl,hn,hg,q⟩:=h
 walk_at "rd"
 refine⟨s,names,rfl,hd,ok,hl,?_⟩
 exact⟨s.pl false,s.D,rfl,CN Say.pl_dep hd,Say.pl_pn,hn,hg,q⟩
inductive mx (ds:List D) (R:D→Prop):Prop
 | mk (rows:List Rw) (ws:List Int) (nm:List Str) (hh:ds=[.lst (rows.map rwD),.tup (ws.map D.int)]∧nm.length≤60∧(∀ r∈rows,RwOk nm 60000000 r)∧(∀ w∈ws,Builtin.Int.intBits w≤60000000) ∧
 ∀ ts,e8 (cfs (rows.zip ws)) ts→R (rowD (kOf (stc (rows.zip ws))) ts (bds (rows.zip ws))))
theorem ou:∀ ds R,mx ds R→ds.length=2:=fun _ _ h_0=>by obtain ⟨_,_,_,e,_⟩:=h_0;rw [e];rfl
theorem b8:ax ["rows","weights","word","sums","bound","row","often","name","weight","terms"] ["rows","weights"] (am s_added):=⟨rfl,rfl,rfl,by decide +kernel,rfl,by decide +kernel,by decide +kernel⟩
theorem rf (F:Fd K mg "added" s_added ["rows","weights"]) (eO:mg "zip"=none) (aK:mg "tuple"=none) (cQ:mg "sorted"=none):Cal P w K mg base 1 "added" ["rows","weights"] (spD K mx):=by
 refine fn_D F b8 ou fun fa cdv A outer s H E ds R hr h=>?_
 have hU:=hr.units
 refine⟨_,(ad (aA 2 b8.nd ay) (ad (kt 3 b8.nd) (ad (aA 4 b8.nd ae) (ad (gR PassesOwn.never rfl (jT true false rfl eO (ac (de_v 0) (ac (de_v 1) af))) (bY (n:=2) rfl (aw (ap 5 b8.nd) (aw (ap 6 b8.nd) aZ))) (ad (aR (DW.dt (wm (aH (o_eq hU) (ar au (de_v 5) ae (fun _ _=>rfl)) ay (aB _)) (sG (aH o_gt (de_v 6) ae (aB _))))) (ag (aA 2 b8.nd ay)) aD) (ad (gB PassesOwn.never rfl (ar au (de_v 5) ae (fun _ _=>rfl)) (bY (n:=2) rfl (aw (ap 7 b8.nd) (aw (ap 8 b8.nd) aZ))) (ag (gC 3 hU (aC aS (rh 3 hU (de_v 7) ae) (aC bF (de_v 6) (de_v 8))) (de_v 7)))) (ag (aA 4 b8.nd (aC aS (de_v 4) (aC bF (de_v 6) (ar au (de_v 5) ae (fun _ _=>rfl))))))))) (dA 3 (ad (aA 9 b8.nd (cF fe rfl aK cB (ac (cy ["name"] [(3,"sums")] rfl rfl (by decide +kernel) rfl (by decide +kernel) (bR ⟨rfl,trivial⟩) (bZ rfl) (bn ⟨⟨rfl,rfl,.inl rfl⟩,trivial⟩) (fP (ba (kQ rfl) rfl cQ kS (ac (de_v 3) af))) fun _ _ _ _ _=>⟨(ap 0 (show List.Nodup (["name","sums"]:List Str) by decide +kernel)),(gY (aH (jG hU) (dN hU (de_v 1) (de_v 0) (fun _ _=>rfl)) ae (aB _))),(aG (ac (de_v 0) (ac (dN hU (de_v 1) (de_v 0) (fun _ _=>rfl)) af)))⟩) af))) (ag (av (aG (ac (de_v 2) (ac (de_v 9) (ac (de_v 4) af)))))))))))),?_⟩
 obtain ⟨rows,ws,nm,rfl,hnm,hr,hw,q⟩:=h
 walk_at "rd"
 intro da
 refine d5 fun B N hB hN=>?_
 simp only [kP]
 walk_at "rd"
 rw [oP]
 generalize hl:rows.zip ws=l at q ⊢
 have hl1:∀ p∈l,RwOk nm 60000000 p.1∧Builtin.Int.intBits p.2≤60000000:=fun p hp=>by
  rw [← hl] at hp
  exact⟨hr _ (Di hp).1,hw _ (Di hp).2⟩
 clear hl hr hw
 refine⟨fun i δ=>∃ ks u v w z y,δ=[.dat (.lst (rows.map rwD)),.dat (.tup (ws.map D.int)),.dat (.str (kdS (kOf (stc (l.take i))))),.own da (.dct ks (ks.map fun n=>.int (cfs (l.take i) n))),.dat (.int (bds (l.take i))),u,v,w,z,y]∧ks.Nodup∧(∀ n∈ks,n∈nm)∧∀ n,n∉ks→cfs (l.take i) n=0,
  ⟨[],_,_,_,_,_,rfl,List.nodup_nil,fun n h=>(nomatch h),fun n h=>rfl⟩,?_,?_⟩
 ·rintro i d δ hd ⟨ks,u,v,w,z,y,rfl,nd,hs,h0⟩
  rw [C0] at hd
  cases hn:l[i]? with
  | none=>rw [hn] at hd;cases hd
  | some p =>
   rw [hn] at hd
   cases hd
   obtain ⟨⟨k,ts,b⟩,c⟩:=p
   obtain ⟨ok,bc⟩:=hl1 _ (C1 hn)
   have htk:=aF hn
   rw [hB]
   show kT _ _ (.tup [.tup [.str (kdS k),.tup (ts.map tmD),.int b],.int c]) _ _
   refine cD fun K hK=>?_
   walk_at "rd"
   have go:∀ wd,wd=kdS (kOf (stc (l.take (i + 1))))→K [.dat (.lst (rows.map rwD)),.dat (.tup (ws.map D.int)),.dat (.str wd),.own da (.dct ks (ks.map fun n=>.int (cfs (l.take i) n))),.dat (.int (bds (l.take i))),.dat (.tup [.str (kdS k),.tup (ts.map tmD),.int b]),.dat (.int c),w,z,y]:=?_
   ·have e:stc (l.take (i + 1))=(stc (l.take i) || (isM k && decide (0 < c))):=by rw [htk,ol,nE]
    cases k with
    | least =>
     refine ifn (by decide) (go _ ?_)
     rw [e]
     simp only [isM,Bool.false_and,Bool.or_false]
    | more =>
     refine ifp rfl (ite2 (fun hc=>go _ ?_) fun hc=>go _ ?_)
     ·rw [e,decide_eq_true hc]
      simp only [isM,Bool.and_true,Bool.or_true]
      rfl
     ·rw [e,decide_eq_false hc]
      simp only [isM,Bool.and_false,Bool.or_false]
   intro wd hwd
   rw [hK]
   refine ak fun K2 hK2=>?_
   simp only [n9]
   walk_at "rd"
   refine⟨fun j δ=>∃ ks w z y,δ=[.dat (.lst (rows.map rwD)),.dat (.tup (ws.map D.int)),.dat (.str wd),.own da (.dct ks (ks.map fun n=>.int (cfs (l.take i) n + c * cf (ts.take j) n))),.dat (.int (bds (l.take i))),.dat (.tup [.str (kdS k),.tup (ts.map tmD),.int b]),.dat (.int c),w,z,y]∧ks.Nodup∧(∀ n∈ks,n∈nm)∧∀ n,n∉ks→cfs (l.take i) n + c * cf (ts.take j) n=0,
    ⟨ks,w,z,y,by simp only [List.take_zero,cf,Int.mul_zero,Int.add_zero],nd,hs,fun n hn=>by rw [h0 n hn,List.take_zero];show 0 + c * 0=0;omega⟩,?_,?_⟩
   ·rintro j d δ hd ⟨ks,w,z,y,rfl,nd,hs,h0⟩
    obtain ⟨t,ht,rfl⟩:=dG hd
    have htm:=C1 ht
    have hj:=aF ht
    walk_at "rd"
    rw [pX (h0 t.1)]
    refine⟨mo2 bc (ok.bw t htm),by have:=hZ nd hs;omega,?_,nD nd,fun n hn=>?_,fun n hn=>?_⟩
    ·have e:∀ n,cfs (l.take i) n + c * cf (ts.take (j + 1)) n=(cfs (l.take i) n + c * cf (ts.take j) n) + c * (if t.1=n then t.2 else 0):=fun n=>by
      rw [hj,lM,Int.mul_add]
      show _ + (_ + c * ((if t.1=n then t.2 else 0) + 0))=_
      rw [Int.add_zero,Int.add_assoc]
     have:=rL (ks:=ks) (x:=t.1) (f:=fun n=>D.int (cfs (l.take i) n + c * cf (ts.take j) n)) (g:=fun n=>D.int (cfs (l.take i) n + c * cf (ts.take (j + 1)) n)) (fun n hn=>by rw [e,if_neg (fun z=>hn z.symm),Int.mul_zero,Int.add_zero])
     rw [← this,e,if_pos rfl]
    ·rcases ir.mp hn with h | h
     ·exact hs n h
     ·rw [h];exact ok.sub t htm
    ·rw [ir,not_or] at hn
     rw [hj,lM,Int.mul_add,← Int.add_assoc,h0 n hn.1]
     show 0 + c * ((if t.1=n then t.2 else 0) + 0)=0
     rw [if_neg (fun z=>hn.2 z.symm)];omega
   ·rintro δ ⟨ks,w,z,y,rfl,nd,hs,h0⟩
    have e1:ts.take (ts.map tmD).length=ts:=by rw [CK,C4]
    rw [e1] at h0 ⊢
    rw [hK2]
    walk_at "rd"
    have e2:∀ n,cfs (l.take (i + 1)) n=cfs (l.take i) n + c * cf ts n:=fun n=>by
     rw [htk,mY]
     show _ + (c * cf ts n + 0)=_
     rw [Int.add_zero]
    simp only [e2]
    rw [htk,ny]
    exact⟨mo2 bc ok.bb,by rw [← htk];exact hwd,trivial,(by show _=_ + (c * b + 0);rw [Int.add_zero]),nd,hs,fun n hn=>h0 n hn⟩
 ·rintro δ ⟨ks,u,v,w,z,y,rfl,nd,hs,h0⟩
  rw [CK,C4] at h0 ⊢
  rw [hN]
  walk_at "rd"
  have hk:=hZ nd hs
  refine⟨by omega,fun ss' pm st=>?_⟩
  have hl':=pm.length_eq
  refine⟨by rw [CK];omega,fun d=>match d with | .str n=>if cfs l n≠0 then some (.tup [.str n,.int (cfs l n)]) else none | _=>none,fun x hx=>?_,?_⟩
  ·obtain ⟨n,hn,rfl⟩:=CM.mp hx
   have hnk:n∈ks:=pm.mem_iff.mp hn
   walk_at "rd"
   refine⟨_,cR (fun n=>D.int (cfs l n)) hnk,?_⟩
   walk_at "rd"
   refine ite2 (fun hz=>?_) fun hz=>?_
   ·exact⟨_,cR (fun n=>D.int (cfs l n)) hnk,by rw [if_pos hz]⟩
   ·rw [if_neg hz]
  ·have e:(ss'.map D.str).filterMap (fun d=>match d with | .str n=>if cfs l n≠0 then some (D.tup [.str n,.int (cfs l n)]) else none | _=>none)=((ss'.filter fun n=>decide (cfs l n≠0)).map fun n=>(n,cfs l n)).map tmD:=by
    clear hl' pm st
    induction ss' with
    | nil=>rfl
    | cons n r ih =>
     rw [List.map_cons,List.filterMap_cons]
     simp only
     by_cases hz:cfs l n≠0
     ·rw [if_pos hz,Dc (by simpa using hz)]
      simp only [List.map_cons]
      rw [ih];rfl
     ·rw [if_neg hz,Db (by simpa using hz)]
      exact ih
   rw [e]
   exact q _ (e8.mk' (sC st) (pm.nodup_iff.mpr nd) fun n hn=>pm.mem_iff.mpr (CS fun z=>hn (h0 n z)))
def smD (nm:List Str) (rows:List Rw) (w:List Int):D:=.tup [rwD (smR nm rows w),.tup (w.map D.int)]
inductive cv (ds:List D) (R:D→Prop):Prop
 | mk (n:Str) (r:Rw) (hh:ds=[.str n,rwD r]∧(r.2.1.map (·.1)).Nodup∧R (.int (cf r.2.1 n)))
theorem iV:∀ ds R,cv ds R→ds.length=2:=fun _ _ h_0=>by obtain ⟨_,_,e,_⟩:=h_0;rw [e];rfl
theorem d7:ax ["name","row","found","weight"] ["name","row"] (am s_weight_of):=⟨rfl,rfl,rfl,by decide +kernel,rfl,by decide +kernel,by decide +kernel⟩
theorem kE (F:Fd K mg "weight_of" s_weight_of ["name","row"]):Cal P w K mg base 1 "weight_of" ["name","row"] (spD K cv):=by
 refine fn_D F d7 iV fun fa cdv A outer s H E ds R hr h=>?_
 have hU:=hr.units
 refine⟨_,(ad (gB PassesOwn.never rfl (ar au (de_v 1) ae (fun _ _=>rfl)) (bY (n:=2) rfl (aw (ap 2 d7.nd) (aw (ap 3 d7.nd) aZ))) (ag (aR (aH (o_eq hU) (de_v 2) (de_v 0) (aB _)) (ag (av (de_v 3))) aD))) (ag (av ae))),?_⟩
 obtain ⟨n,⟨k,ts,b⟩,rfl,nd,q⟩:=h
 unfold rwD rowD
 walk_at "rd"
 simp only [n9]
 walk_at "rd"
 refine⟨fun i δ=>∃ x y,δ=[.dat (.str n),.dat (.tup [.str (kdS k),.tup (ts.map tmD),.int b]),x,y]∧n∉(ts.take i).map (·.1),⟨_,_,rfl,by simp⟩,?_,?_⟩
 ·rintro i d δ hd ⟨x,y,rfl,hn⟩
  obtain ⟨t,ht,rfl⟩:=dG hd
  walk_at "rd"
  refine ite2 (fun e=>?_) (fun e=>?_)
  ·subst e
   have:=mn nd (C1 ht)
   simp only at q this
   rw [this] at q
   exact q
  ·rw [aF ht,C3,CV,not_or]
   exact⟨hn,fun z=>e (C2.mp z).symm⟩
 ·rintro δ ⟨x,y,rfl,hn⟩
  rw [CK,C4] at hn
  have:=jl hn
  simp only at q
  rw [this] at q
  exact q
theorem v6 {α:Type} {f:α→D} {l:List α} {i:Nat} {d:D} (h:(enD (l.map f))[i]?=some d):∃ r,l[i]?=some r∧d=.tup [.int (i:Nat),f r]:=by
 unfold enD at h
 rw [List.getElem?_mapIdx,C0] at h
 cases e:l[i]? with
 | none=>rw [e] at h;cases h
 | some r=>rw [e] at h;exact⟨r,rfl,(Option.some.inj h).symm⟩
theorem wF {xs:List D}:(enD xs).length=xs.length:=by unfold enD;rw [List.length_mapIdx]
inductive mD (ds:List D) (R:D→Prop):Prop
 | mk (rows:List Rw) (nm:List Str) (hh:ds=[.lst (rows.map rwD)]∧Rws nm rows∧rows.length≤60∧R (.lst ((unWs rows.length).map (smD nm rows))))
theorem nC:∀ ds R,mD ds R→ds.length=1:=fun _ _ h_0=>by obtain ⟨_,_,e,_⟩:=h_0;rw [e];rfl
theorem iy:ax ["rows","told","place","row"] ["rows"] (am s_alone):=⟨rfl,rfl,rfl,by decide +kernel,rfl,by decide +kernel,by decide +kernel⟩
theorem tF (F:Fd K mg "alone" s_alone ["rows"]) (cu:mg "enumerate"=none) (aK:mg "tuple"=none) (cH:mg "range"=none) (cA:mg "len"=none):Cal P w K mg base 1 "alone" ["rows"] (spD K mD):=by
 refine fn_D F iy nC fun fa cdv A outer s H E ds R hr h=>?_
 have hU:=hr.units
 refine⟨_,(ad (et 1 iy.nd af) (ad (gR PassesOwn.never rfl (rQ rfl cu (ac (de_v 0) af)) (bY (n:=2) rfl (aw (ap 2 iy.nd) (aw (ap 3 iy.nd) aZ))) (ag (bN 1 (aG (ac (de_v 3) (ac (cF fe rfl aK cB (ac (cy ["other"] [(2,"place")] rfl rfl (by decide +kernel) rfl (by decide +kernel) (bR ⟨rfl,trivial⟩) (bZ rfl) (bn ⟨⟨rfl,rfl,.inl rfl⟩,trivial⟩) (kl rfl cH (ac (ba h9 rfl cA gD (ac (de_v 0) af)) af)) fun _ _ _ _ _=>⟨(ap 0 (show List.Nodup (["other","place"]:List Str) by decide +kernel)),dQ,(sK (aH (o_eq hU) (de_v 0) (de_v 1) (aB _)) ae ae)⟩) af)) af)))))) (ag (kw 1)))),?_⟩
 obtain ⟨rows,nm,rfl,H,hl,q⟩:=h
 walk_at "rd"
 intro ta
 refine d5 fun B N hB hN=>?_
 simp only [kP]
 walk_at "rd"
 refine⟨fun i δ=>∃ x y,δ=[.dat (.lst (rows.map rwD)),.own ta (.lst (((unWs rows.length).take i).map (smD nm rows))),x,y],⟨_,_,rfl⟩,?_,?_⟩
 ·rintro i d δ hd ⟨x,y,rfl⟩
  obtain ⟨r,hr,rfl⟩:=v6 hd
  rw [hB]
  walk_at "rd"
  have hil:i < rows.length:=(CY.mp hr).1
  rw [CK]
  refine⟨by omega,by omega,by simp;omega,fun d=>match d with | .int o=>some (.int (if o=(i:Int) then 1 else 0)) | _=>none,fun x hx=>?_,?_⟩
  ·obtain ⟨o,ho,rfl⟩:=CM.mp hx
   walk_at "rd"
   refine ite2 (fun e=>?_) (fun e=>?_)
   ·rw [if_pos e]
   ·rw [if_neg e]
  ·have e1:((List.range (rows.length:Int).toNat).map fun (k:Nat)=>D.int (k:Int)).filterMap (fun d=>match d with | .int o=>some (D.int (if o=(i:Int) then 1 else 0)) | _=>none)=(unW rows.length i).map D.int:=by
    unfold unW
    rw [List.map_map,Int.toNat_natCast]
    rw [aN _ (fun (k:Nat)=>D.int (k:Int)) (fun k=>D.int (if k=i then 1 else 0)) _ fun k _=>?_]
    ·rfl
    ·show some (D.int (if (k:Int)=(i:Int) then 1 else 0))=_
     by_cases e:k=i
     ·rw [if_pos e,if_pos (by omega)]
     ·rw [if_neg e,if_neg (by omega)]
   have hu:(unWs rows.length)[i]?=some (unW rows.length i):=by unfold unWs;rw [C0,List.getElem?_range hil];rfl
   rw [e1,aF hu,C3]
   refine⟨by rw [CK,De];omega,?_⟩
   show _++[D.tup [rwD r,_]]=_++[smD nm rows (unW rows.length i)]
   unfold smD
   rw [oU H hr]
 ·rintro δ ⟨x,y,rfl⟩
  rw [wF,CK,hN]
  walk_at "rd"
  have e:(unWs rows.length).take rows.length=unWs rows.length:=List.take_of_length_le (by unfold unWs;simp)
  rw [e]
  exact q
theorem uO {ws:List Int} {i:Nat} {d:D} (h:(ws.map D.int)[i]?=some d):∃ a,ws[i]?=some a∧d=.int a:=by
 rw [C0] at h
 cases e:ws[i]? with
 | none=>rw [e] at h;cases h
 | some n=>rw [e] at h;exact⟨n,rfl,(Option.some.inj h).symm⟩
theorem xo {ws:List Int} {n:Nat} (hz:∃ w∈ws,w≠0) (hb:∀ w∈ws,ib w≤n):ib (gW ws)≤n:=by
 obtain ⟨w,hw,hn⟩:=hz
 exact eE (ln hw) hn (hb w hw)
inductive fL (ds:List D) (R:D→Prop):Prop
 | mk (ws:List Int) (hh:ds=[.lst (ws.map D.int)]∧ws.length≤60∧(∃ w∈ws,w≠0)∧(∀ w∈ws,ib w≤8000)∧R (.tup ((shW ws).map D.int)))
theorem jc:∀ ds R,fL ds R→ds.length=1:=fun _ _ h_0=>by obtain ⟨_,e,_⟩:=h_0;rw [e];rfl
theorem dh:ax ["weights","divisor","weight"] ["weights"] (am s_shortened):=⟨rfl,rfl,rfl,by decide +kernel,rfl,by decide +kernel,by decide +kernel⟩
theorem ke (F:Fd K mg "shortened" s_shortened ["weights"]) (a8:Cal P w K mg base 1 "common_divisor" ["one","other"] (spD K (bT))) (aK:mg "tuple"=none):Cal P w K mg base 2 "shortened" ["weights"] (spD K fL):=by
 refine fn_D F dh jc fun fa cdv A outer s H E ds R hr h=>?_
 have hU:=hr.units
 refine⟨_,(ad (aA 1 dh.nd ae) (ad (cJ PassesOwn.never rfl (de_v 0) (ap 2 dh.nd) (ag (aA 1 dh.nd (aq a8 (rm hr) rfl (ac (de_v 1) (ac (de_v 2) af)))))) (ag (av (cF fe rfl aK cB (ac (cy ["weight"] [(1,"divisor")] rfl rfl (by decide +kernel) rfl (by decide +kernel) (bR ⟨rfl,trivial⟩) (bZ rfl) (bn ⟨⟨rfl,rfl,.inl rfl⟩,trivial⟩) (fP (de_v 0)) fun _ _ _ _ _=>⟨(ap 0 (show List.Nodup (["weight","divisor"]:List Str) by decide +kernel)),dQ,(aC eW (de_v 0) (de_v 1))⟩) af)))))),?_⟩
 obtain ⟨ws,rfl,hl,hz,hb,q⟩:=h
 walk_at "rd"
 simp only [qM]
 walk_at "rd"
 refine⟨fun i δ=>∃ x,δ=[.dat (.lst (ws.map D.int)),.dat (.int ((ws.take i).foldl gc 0)),x],⟨_,rfl⟩,?_,?_⟩
 ·rintro i d δ hd ⟨x,rfl⟩
  obtain ⟨a,ha,rfl⟩:=uO hd
  walk_at "rd"
  refine⟨_,_,rfl,?_⟩
  walk_at "rd"
  rw [aF ha,List.foldl_append]
  rfl
 ·rintro δ ⟨x,rfl⟩
  rw [CK,C4]
  walk_at "rd"
  have g:=oC hz
  refine⟨by rw [CK];omega,fun d=>match d with | .int a=>some (.int (a.fdiv (gW ws))) | _=>none,fun x hx=>?_,?_⟩
  ·obtain ⟨a,_,rfl⟩:=CM.mp hx
   walk_at "rd"
   exact⟨⟨by show gW ws≠0;omega,qx (xo hz hb) (Nat.le_refl _)⟩,rfl⟩
  ·rw [aN _ D.int (fun a=>D.int (a.fdiv (gW ws))) _ fun k _=>rfl]
   unfold shW at q
   rw [List.map_map] at q
   exact q
theorem ph {nm:List Str} {rows:List Rw} {w:List Int}:smD nm rows w=.tup [rwD (smR nm rows w),.tup (w.map D.int)]:=rfl
theorem gP {nm:List Str} {rows:List Rw} (H:Rws nm rows) (w:List Int):((smR nm rows w).2.1.map (·.1)).Nodup:=(H.smT w).nd
theorem uL {l h:List Int}:zipD (l.map D.int) (h.map D.int)=(l.zip h).map fun p=>D.tup [.int p.1,.int p.2]:=by
 unfold zipD
 rw [List.zipWith_map,List.zip,List.map_zipWith]
inductive iR (ds:List D) (R:D→Prop):Prop
 | mk (nm:List Str) (rows:List Rw) (n:Str) (l h:List Int) (hh:ds=[smD nm rows l,smD nm rows h,.str n]∧Rws nm rows∧rows.length≤60∧Wt rows.length l∧Wt rows.length h∧0 < cfs (rows.zip l) n∧cfs (rows.zip h) n < 0 ∧
 ib (cfs (rows.zip l) n)≤8000∧ib (cfs (rows.zip h) n)≤8000∧(∀ a∈l,ib a≤8000)∧(∀ a∈h,ib a≤8000)∧(∀ a∈crS rows n l h,ib a≤8000)∧R (.tup ((crW rows n l h).map D.int)))
theorem kd:∀ ds R,iR ds R→ds.length=3:=fun _ _ h_0=>by obtain ⟨_,_,_,_,_,e,_⟩:=h_0;rw [e];rfl
theorem gL:ax ["low","high","name","low_times","high_times"] ["low","high","name"] (am s_crossed):=⟨rfl,rfl,rfl,by decide +kernel,rfl,by decide +kernel,by decide +kernel⟩
theorem oy (F:Fd K mg "crossed" s_crossed ["low","high","name"]) (aL:Cal P w K mg base 1 "weight_of" ["name","row"] (spD K (cv))) (fH:Cal P w K mg base 2 "shortened" ["weights"] (spD K (fL))) (eO:mg "zip"=none):Cal P w K mg base 3 "crossed" ["low","high","name"] (spD K iR):=by
 refine fn_D F gL kd fun fa cdv A outer s H E ds R hr h=>?_
 have hU:=hr.units
 refine⟨_,(ad (aA 3 gL.nd (vk uv (aq aL (rm hr) rfl (ac (de_v 2) (ac (ar au (de_v 1) ae (fun _ _=>rfl)) af))))) (ad (aA 4 gL.nd (aq aL (rm hr) rfl (ac (de_v 2) (ac (ar au (de_v 0) ae (fun _ _=>rfl)) af)))) (ag (av (aq fH (rm hr) rfl (ac (cy ["one","other"] [(3,"low_times"),(4,"high_times")] rfl rfl (by decide +kernel) rfl (by decide +kernel) (bR ⟨rfl,rfl,trivial⟩) (bZ rfl) (bn ⟨⟨rfl,rfl,.inl rfl⟩,⟨rfl,rfl,.inl rfl⟩,trivial⟩) (jT false false rfl eO (ac (ar au (de_v 0) ae (fun _ _=>rfl)) (ac (ar au (de_v 1) ae (fun _ _=>rfl)) af))) fun _ _ _ _ _=>⟨(bY (n:=2) rfl (aw (ap 0 (show List.Nodup (["one","other","low_times","high_times"]:List Str) by decide +kernel)) (aw (ap 1 (show List.Nodup (["one","other","low_times","high_times"]:List Str) by decide +kernel)) aZ))),dQ,(aC aS (aC bF (de_v 0) (de_v 2)) (aC bF (de_v 1) (de_v 3)))⟩) af)))))),?_⟩
 obtain ⟨nm,rows,n,l,h,rfl,H,hm,wl,wh,cl,ch,b1,b2,b3,b4,b5,q⟩:=h
 simp only [ph]
 walk_at "rd"
 refine⟨n,smR nm rows h,rfl,gP H h,?_⟩
 walk_at "rd"
 refine⟨n,smR nm rows l,rfl,gP H l,?_⟩
 walk_at "rd"
 rw [dR H,dR H,uL]
 have ll:=wl.len
 have lh:=wh.len
 refine⟨by rw [CK,List.length_zip];omega,fun d=>match d with | .tup [.int a,.int b]=>some (.int (a * -(cfs (rows.zip h) n) + b * cfs (rows.zip l) n)) | _=>none,fun x hx=>?_,?_⟩
 ·obtain ⟨⟨a,b⟩,hp,rfl⟩:=CM.mp hx
  walk_at "rd"
  exact⟨mo2 (b3 a (Di hp).1) (intBits_neg_le b2),mo2 (b4 b (Di hp).2) b1⟩
 ·obtain ⟨_,nz⟩:=jN wl wh cl ch
  refine⟨crS rows n l h,?_,by rw [mv ll lh];omega,nz,b5,q⟩
  rw [aN _ (fun p:Int×Int=>D.tup [.int p.1,.int p.2]) (fun p=>D.int (p.1 * -(cfs (rows.zip h) n) + p.2 * cfs (rows.zip l) n)) _ fun k _=>rfl]
  unfold crS
  rw [List.map_zipWith,show l.zip h=List.zipWith Prod.mk l h from rfl,List.map_zipWith]
def tS:D→List Int
 | .tup [_,.tup xs]=>xs.map fun x=>match x with | .int a=>a | _=>0
 | _=>[]
theorem pI {nm:List Str} {rows:List Rw} {w:List Int}:tS (smD nm rows w)=w:=by
 show (w.map D.int).map _=w
 rw [List.map_map]
 exact List.map_id _
theorem ek {nm:List Str} {rows:List Rw} (p:List Int→Bool):∀ W:List (List Int),(W.map (smD nm rows)).filterMap (fun d=>if p (tS d)=true then some d else none)=(W.filter p).map (smD nm rows)
 | []=>rfl
 | w :: W=>by
  rw [List.map_cons,List.filterMap_cons,pI]
  by_cases h:p w=true
  ·rw [if_pos h,Dc h,ek p W];rfl
  ·rw [if_neg h,Db h,ek p W]
theorem oK {nm:List Str} {rows:List Rw} {W:List (List Int)} {i:Nat} {d:D} (h:(W.map (smD nm rows))[i]?=some d):∃ w,W[i]?=some w∧d=smD nm rows w:=by
 rw [C0] at h
 cases e:W[i]? with
 | none=>rw [e] at h;cases h
 | some n=>rw [e] at h;exact⟨n,rfl,(Option.some.inj h).symm⟩
theorem yc (u:List Int):((u.map D.int).filterMap (fun d=>match d with | .int a=>if 0 < a then some (D.int a) else none | _=>none)).length=usd u:=by
 unfold usd
 induction u with
 | nil=>rfl
 | cons a u ih =>
  rw [List.map_cons,List.filterMap_cons]
  simp only
  by_cases h:0 < a
  ·rw [if_pos h,Dc (by simpa using h),CZ,CZ,ih]
  ·rw [if_neg h,Db (by simpa using h),ih]
structure Sums (nm:List Str) (rows:List Rw) (B k:Nat) (W:List (List Int)):Prop where
 H:Rws nm rows
 hB:RwB B rows
 m6:rows.length≤60
 n6:nm.length≤60
 wt:∀ w∈W,Wt rows.length w
 bits:∀ w∈W,∀ a∈w,ib a≤wb B rows.length k
 fit:cb B rows.length k≤8000∧wb B rows.length (k + 1)≤8000
theorem Sums.w8 {nm:List Str} {rows:List Rw} {B k:Nat} {W:List (List Int)} (S:Sums nm rows B k W) {w:List Int} (hw:w∈W):∀ a∈w,ib a≤8000:=fun a ha=>by
 have:=S.bits w hw a ha
 have:=S.fit.1
 unfold cb at this
 omega
theorem Sums.c8 {nm:List Str} {rows:List Rw} {B k:Nat} {W:List (List Int)} (S:Sums nm rows B k W) {w:List Int} (hw:w∈W) (n:Str):ib (cfs (rows.zip w) n)≤8000:=CN (S.H.cfb S.hB (S.bits w hw) n) S.fit.1
theorem Sums.rw {nm:List Str} {rows:List Rw} {B k:Nat} {W:List (List Int)} (S:Sums nm rows B k W):∀ r∈rows,RwOk nm 60000000 r:=fun r hr=>by
 have h8:B≤8000:=by have:=S.fit.1;unfold cb at this;omega
 exact⟨S.H.sub r hr,fun t ht=>CN (S.hB.tm r hr t ht) (by omega),CN (S.hB.bd r hr) (by omega)⟩
inductive iH (ds:List D) (R:D→Prop):Prop
 | mk (nm:List Str) (rows:List Rw) (n:Str) (W:List (List Int)) (most B k c:Nat) (hh:ds=[.lst (rows.map rwD),.lst (W.map (smD nm rows)),.str n,.int (most:Nat)]∧Sums nm rows B k W∧W.length≤c∧4≤c∧c * c / 4 < 9000∧R (.lst ((woW rows n most W).map (smD nm rows))))
theorem kH:∀ ds R,iH ds R→ds.length=4:=fun _ _ h_0=>by obtain ⟨_,_,_,_,_,_,_,_,e,_⟩:=h_0;rw [e];rfl
theorem cx:ax ["rows","sums","name","most","told","lows","highs","low","high","weights"] ["rows","sums","name","most"] (am s_without):=⟨rfl,rfl,rfl,by decide +kernel,rfl,by decide +kernel,by decide +kernel⟩
theorem mO (F:Fd K mg "without" s_without ["rows","sums","name","most"]) (aL:Cal P w K mg base 1 "weight_of" ["name","row"] (spD K (cv))) (iE:Cal P w K mg base 3 "crossed" ["low","high","name"] (spD K (iR))) (nP:Cal P w K mg base 1 "added" ["rows","weights"] (spD K (mx))) (cA:mg "len"=none):Cal P w K mg base 4 "without" ["rows","sums","name","most"] (spD K iH):=by
 refine fn_D F cx kH fun fa cdv A outer s H E ds R hr h=>?_
 have hU:=hr.units
 refine⟨_,(ad (vn 4 cx.nd ["held"] [(2,"name")] rfl rfl (by decide +kernel) rfl (by decide +kernel) (bR ⟨rfl,trivial⟩) (bZ rfl) (bn ⟨⟨rfl,rfl,.inl rfl⟩,trivial⟩) (fP (de_v 1)) fun _ _ _ _ _=>⟨(ap 0 (show List.Nodup (["held","name"]:List Str) by decide +kernel)),(gY (aH (o_eq hU) (aq aL (rm hr) rfl (ac (de_v 1) (ac (ar au (de_v 0) ae (fun _ _=>rfl)) af))) ae (aB _))),(de_v 0)⟩) (ad (eK 5 cx.nd ["held"] [(2,"name")] rfl rfl (by decide +kernel) rfl (by decide +kernel) (bR ⟨rfl,trivial⟩) (bZ rfl) (bn ⟨⟨rfl,rfl,.inl rfl⟩,trivial⟩) (fP (de_v 1)) fun _ _ _ _ _=>⟨(ap 0 (show List.Nodup (["held","name"]:List Str) by decide +kernel)),(gY (aH o_gt (aq aL (rm hr) rfl (ac (de_v 1) (ac (ar au (de_v 0) ae (fun _ _=>rfl)) af))) ae (aB _))),(de_v 0)⟩) (ad (eK 6 cx.nd ["held"] [(2,"name")] rfl rfl (by decide +kernel) rfl (by decide +kernel) (bR ⟨rfl,trivial⟩) (bZ rfl) (bn ⟨⟨rfl,rfl,.inl rfl⟩,trivial⟩) (fP (de_v 1)) fun _ _ _ _ _=>⟨(ap 0 (show List.Nodup (["held","name"]:List Str) by decide +kernel)),(gY (aH o_lt (aq aL (rm hr) rfl (ac (de_v 1) (ac (ar au (de_v 0) ae (fun _ _=>rfl)) af))) ae (aB _))),(de_v 0)⟩) (ad (cJ PassesOwn.never rfl (de_v 5) (ap 7 cx.nd) (ag (cJ PassesOwn.never rfl (de_v 6) (ap 8 cx.nd) (ad (aA 9 cx.nd (aq iE (rm hr) rfl (ac (de_v 7) (ac (de_v 8) (ac (de_v 2) af))))) (ag (aR (aH o_le (ba h9 rfl cA gD (ac (cy ["often"] [] rfl rfl (by decide +kernel) rfl (by decide +kernel) (bR trivial) (bZ rfl) (bn trivial) (lH (de_v 9)) fun _ _ _ _ _=>⟨(ap 0 (show List.Nodup (["often"]:List Str) by decide +kernel)),(gY (aH o_gt (de_v 0) ae (aB _))),(de_v 0)⟩) af)) (de_v 3) (aB _)) (ag (bN 4 (aG (ac (aq nP (rm hr) rfl (ac (de_v 0) (ac (de_v 9) af))) (ac (de_v 9) af))))) aD)))))) (ag (kw 4)))))),?_⟩
 obtain ⟨nm,rows,n,W,most,B,k,c,rfl,S,hc,h4,hc9,q⟩:=h
 have c9:c < 9000:=by
  have:c≤c * c / 4:=(Nat.le_div_iff_mul_le (by decide)).mpr (Nat.mul_le_mul_left c h4)
  omega
 have sf0:=ek (nm:=nm) (rows:=rows) (fun w=>decide (cfs (rows.zip w) n=0)) W
 have sf1:=ek (nm:=nm) (rows:=rows) (fun w=>decide (0 < cfs (rows.zip w) n)) W
 have sf2:=ek (nm:=nm) (rows:=rows) (fun w=>decide (cfs (rows.zip w) n < 0)) W
 refine ak fun K1 hK1=>?_
 walk_at "rd"
 refine⟨by rw [CK];omega,fun d=>if decide (cfs (rows.zip (tS d)) n=0)=true then some d else none,fun x hx=>?_,?_⟩
 ·obtain ⟨w,hw,rfl⟩:=CM.mp hx
  simp only [pI]
  simp only [ph]
  walk_at "rd"
  refine⟨n,smR nm rows w,rfl,gP S.H w,?_⟩
  rw [dR S.H]
  walk_at "rd"
  refine ite2 (fun e=>?_) fun e=>?_
  ·rw [if_pos e]
  ·rw [if_neg e]
 ·rw [sf0]
  intro ta
  rw [hK1]
  refine ak fun K2 hK2=>?_
  walk_at "rd"
  refine⟨by rw [CK];omega,fun d=>if decide (0 < cfs (rows.zip (tS d)) n)=true then some d else none,fun x hx=>?_,?_⟩
  ·obtain ⟨w,hw,rfl⟩:=CM.mp hx
   simp only [pI]
   simp only [ph]
   walk_at "rd"
   refine⟨n,smR nm rows w,rfl,gP S.H w,?_⟩
   rw [dR S.H]
   walk_at "rd"
   refine ite2 (fun e=>?_) fun e=>?_
   ·rw [if_pos e]
   ·rw [if_neg e]
  ·rw [sf1,hK2]
   refine ak fun K3 hK3=>?_
   walk_at "rd"
   refine⟨by rw [CK];omega,fun d=>if decide (cfs (rows.zip (tS d)) n < 0)=true then some d else none,fun x hx=>?_,?_⟩
   ·obtain ⟨w,hw,rfl⟩:=CM.mp hx
    simp only [pI]
    simp only [ph]
    walk_at "rd"
    refine⟨n,smR nm rows w,rfl,gP S.H w,?_⟩
    rw [dR S.H]
    walk_at "rd"
    refine ite2 (fun e=>?_) fun e=>?_
    ·rw [if_pos e]
    ·rw [if_neg e]
   ·rw [sf2,hK3]
    clear sf0 sf1 sf2
    have c3:=cnt3 (rows:=rows) (n:=n) W
    unfold woW at q
    have hL:∀ l∈W.filter (fun w=>decide (0 < cfs (rows.zip w) n)),l∈W∧0 < cfs (rows.zip l) n:=fun l hl=>⟨(C5.mp hl).1,by simpa using (C5.mp hl).2⟩
    have hR:∀ l∈W.filter (fun w=>decide (cfs (rows.zip w) n < 0)),l∈W∧cfs (rows.zip l) n < 0:=fun l hl=>⟨(C5.mp hl).1,by simpa using (C5.mp hl).2⟩
    generalize W.filter (fun w=>decide (cfs (rows.zip w) n=0))=Z at *
    generalize W.filter (fun w=>decide (0 < cfs (rows.zip w) n))=Ls at *
    generalize W.filter (fun w=>decide (cfs (rows.zip w) n < 0))=Rs at *
    have zb:Z.length + Ls.length * Rs.length < 9000:=Nat.lt_of_le_of_lt (zab (by omega) h4) hc9
    refine ak fun K4 hK4=>?_
    refine c7 fun F N hF hN=>?_
    simp only [gq]
    walk_at "rd"
    refine⟨fun i δ=>∃ x y z,δ=[.dat (.lst (rows.map rwD)),.dat (.lst (W.map (smD nm rows))),.dat (.str n),.dat (.int (most:Nat)),.own ta (.lst ((Z++(Ls.take i).flatMap fun l=>(Rs.map (crW rows n l)).filter fun u=>decide (usd u≤most)).map (smD nm rows))),.dat (.lst (Ls.map (smD nm rows))),.dat (.lst (Rs.map (smD nm rows))),x,y,z],⟨_,_,_,by rw [List.take_zero,List.flatMap_nil,List.append_nil]⟩,?_,?_⟩
    ·rintro i d δ hd ⟨x,y,z,rfl⟩
     obtain ⟨l,hl,rfl⟩:=oK hd
     obtain ⟨lW,cl⟩:=hL l (C1 hl)
     have hil:i < Ls.length:=(CY.mp hl).1
     rw [hF]
     walk_at "rd"
     refine c7 fun F2 N2 hF2 hN2=>?_
     simp only [gq]
     walk_at "rd"
     refine⟨fun j δ=>∃ y z,δ=[.dat (.lst (rows.map rwD)),.dat (.lst (W.map (smD nm rows))),.dat (.str n),.dat (.int (most:Nat)),.own ta (.lst ((Z++(Ls.take i).flatMap (fun l=>(Rs.map (crW rows n l)).filter fun u=>decide (usd u≤most))++((Rs.take j).map (crW rows n l)).filter fun u=>decide (usd u≤most)).map (smD nm rows))),.dat (.lst (Ls.map (smD nm rows))),.dat (.lst (Rs.map (smD nm rows))),.dat (smD nm rows l),y,z],⟨_,_,by rw [List.take_zero,List.map_nil,List.filter_nil,List.append_nil]⟩,?_,?_⟩
     ·rintro j d δ hd ⟨y,z,rfl⟩
      obtain ⟨h,hh,rfl⟩:=oK hd
      obtain ⟨hW,ch⟩:=hR h (C1 hh)
      have hjl:j < Rs.length:=(CY.mp hh).1
      rw [hF2]
      show gU _ _ _ _
      refine cD fun K5 hK5=>?_
      walk_at "rd"
      refine⟨nm,rows,n,l,h,rfl,S.H,S.m6,S.wt l lW,S.wt h hW,cl,ch,S.c8 lW n,S.c8 hW n,S.w8 lW,S.w8 hW,fun a ha=>CN (j7 S.H S.hB (S.bits l lW) (S.bits h hW) a ha) S.fit.2,?_⟩
      walk_at "rd"
      rw [hK5]
      have ww:=rB (S.wt l lW) (S.wt h hW) cl ch
      have wbt:∀ a∈crW rows n l h,ib a≤60000000:=fun a ha=>by
       obtain ⟨b,hb',rfl⟩:=CM.mp ha
       exact intBits_fdiv_le (CN (j7 S.H S.hB (S.bits l lW) (S.bits h hW) b hb') (CN S.fit.2 (by decide)))
      have tk:(((Rs.take (j + 1)).map (crW rows n l)).filter fun u=>decide (usd u≤most))=(((Rs.take j).map (crW rows n l)).filter fun u=>decide (usd u≤most))++if usd (crW rows n l h)≤most then [crW rows n l h] else []:=by
       rw [aF hh,C3,List.filter_append]
       congr 1
       by_cases e:usd (crW rows n l h)≤most
       ·rw [if_pos e];simp [e]
       ·rw [if_neg e];simp [e]
      simp only [tk]
      generalize crW rows n l h=u at *
      walk_at "rd"
      refine⟨by rw [CK,ww.len];have:=S.m6;omega,fun d=>match d with | .int a=>if 0 < a then some (.int a) else none | _=>none,fun x hx=>?_,?_⟩
      ·obtain ⟨a,_,rfl⟩:=CM.mp hx
       walk_at "rd"
       refine ite2 (fun e=>?_) fun e=>?_
       ·rw [if_pos e]
       ·rw [if_neg e]
      ·rw [yc]
       refine ite2 (fun e=>?_) fun e=>?_
       ·have e:usd u≤most:=by omega
        rw [if_pos e]
        refine⟨rows,u,nm,rfl,S.n6,S.rw,wbt,fun ts hts=>?_⟩
        have:=hts.uniq (S.H.smT u)
        subst this
        walk_at "rd"
        refine⟨?_,?_⟩
        ·rw [CK,CW,CW]
         have f1:=kJ (rows:=rows) (n:=n) (most:=most) Rs (Ls.take i)
         have f2:=List.length_filter_le (fun u=>decide (usd u≤most)) ((Rs.take j).map (crW rows n l))
         rw [CK,De] at f2
         rw [De,show min i Ls.length=i by omega] at f1
         have f3:=Nat.mul_le_mul_right Rs.length (show i + 1≤Ls.length from hil)
         rw [Nat.succ_mul] at f3
         omega
        ·rw [← List.append_assoc,C3 (l₂:=[u])]
         rfl
       ·have e:¬ usd u≤most:=by omega
        rw [if_neg e,List.append_nil]
     ·rintro δ ⟨y,z,rfl⟩
      rw [CK,C4,hN2]
      walk_at "rd"
      rw [aF hl,List.flatMap_append,← List.append_assoc]
      simp only [List.flatMap_cons,List.flatMap_nil,List.append_nil]
      try exact⟨_,_,_,rfl⟩
    ·rintro δ ⟨x,y,z,rfl⟩
     rw [CK,C4,hN,hK4]
     walk_at "rd"
     exact q
def tows (rows:List Rw):List Str→List (List (List Int))
 | []=>[stW rows []]
 | n :: ns=>stW rows (n :: ns) :: tows rows ns
def stpD (nm:List Str) (rows:List Rw) (W:List (List Int)):D:=.lst (W.map (smD nm rows))
theorem f7 {rows:List Rw}:∀ ns:List Str,(tows rows ns).length=ns.length + 1
 | []=>rfl
 | n :: ns=>by show (tows rows ns).length + 1=_;rw [f7 ns];rfl
theorem pA {rows:List Rw}:∀ (ns:List Str) (j:Nat),j≤ns.length→(tows rows ns)[j]?=some (stW rows (ns.drop j))
 | [],0,_=>rfl
 | n :: ns,0,_=>rfl
 | n :: ns,j + 1,h=>pA ns j (by simpa using h)
theorem vi {B B' m m':Nat} (h1:B≤B') (h2:m≤m'):∀ k,wb B m k≤wb B' m' k
 | 0=>Nat.le_refl 1
 | k + 1=>by have:=vi h1 h2 k;show 2 * wb B m k + B + m + 1≤2 * wb B' m' k + B' + m' + 1;omega
theorem yM {B m a:Nat}:∀ {b:Nat},a≤b→wb B m a≤wb B m b
 | 0,h=>by rw [Nat.le_zero.mp h];exact Nat.le_refl _
 | b + 1,h=>by
  by_cases e:a=b + 1
  ·rw [e];exact Nat.le_refl _
  ·exact CN (yM (b:=b) (by omega)) tV
structure Fit (nm:List Str) (rows:List Rw) (B N:Nat):Prop where
 H:Rws nm rows
 hB:RwB B rows
 m6:rows.length≤6
 n6:nm.length≤60
 n4:N≤4
 wN:wb B 6 (N + 1)≤7990
theorem Fit.wk {nm:List Str} {rows:List Rw} {B N k:Nat} (F:Fit nm rows B N) (h:k≤N + 1):wb B rows.length k≤7990:=CN (vi (Nat.le_refl B) F.m6 k) (CN (yM h) F.wN)
theorem Fit.ck {nm:List Str} {rows:List Rw} {B N k:Nat} (F:Fit nm rows B N) (h:k≤N):cb B rows.length k≤7990:=by
 have:2 * wb B rows.length k + B + rows.length + 1≤7990:=F.wk (k:=k + 1) (by omega)
 unfold cb;omega
theorem BN {B m:Nat} (h2:m≤6) (k:Nat):cb B m k≤cb B 6 k:=by have:=vi (Nat.le_refl B) h2 k;unfold cb;omega
theorem Fit.sums {nm:List Str} {rows:List Rw} {B N:Nat} (F:Fit nm rows B N) {ns:List Str} (h:ns.length≤N):Sums nm rows B ns.length (stW rows ns):=by
 have w1:=F.ck h
 have w2:=F.wk (k:=ns.length + 1) (by omega)
 have:=F.m6
 exact⟨F.H,F.hB,by omega,F.n6,fun w hw=>(cL hw).1,fun w hw=>dg F.H F.hB hw,by omega,by omega⟩
inductive e7 (ds:List D) (R:D→Prop):Prop
 | mk (nm:List Str) (rows:List Rw) (B N:Nat) (ns:List Str) (hh:ds=[.lst (rows.map rwD),.lst (ns.map D.str)]∧Fit nm rows B N∧ns.length≤N∧R (.lst ((tows rows ns).map (stpD nm rows))))
theorem iX:∀ ds R,e7 ds R→ds.length=2:=fun _ _ h_0=>by obtain ⟨_,_,_,_,_,e,_⟩:=h_0;rw [e];rfl
theorem cnt6:∀ {k:Nat},k≤3→cnt 6 k * cnt 6 k / 4 < 9000
 | 0,_=>by decide
 | 1,_=>by decide
 | 2,_=>by decide
 | 3,_=>by decide
 | k + 4,h=>by omega
theorem x8 {ns:List Str} {i:Nat} {d:D} (h:(ns.map D.str).reverse[i]?=some d):∃ n,d=.str n∧i < ns.length∧ns.drop (ns.length - (i + 1))=n :: ns.drop (ns.length - i):=by
 have hi:i < ns.length:=by
  have:=(CY.mp h).1
  simpa using this
 rw [List.getElem?_reverse (by simpa using hi),CK,C0] at h
 have e:ns.length - (i + 1) < ns.length:=by omega
 have e1:ns.length - 1 - i=ns.length - (i + 1):=by omega
 rw [e1,Dk e] at h
 refine⟨ns[ns.length - (i + 1)],(Option.some.inj h).symm,hi,?_⟩
 rw [List.drop_eq_getElem_cons e]
 congr 2
 omega
theorem cE:ax ["rows","names","sums","told","name"] ["rows","names"] (am s_taken_out):=⟨rfl,rfl,rfl,by decide +kernel,rfl,by decide +kernel,by decide +kernel⟩
theorem kF (F:Fd K mg "taken_out" s_taken_out ["rows","names"]) (nW:Cal P w K mg base 1 "alone" ["rows"] (spD K (mD))) (iS:Cal P w K mg base 4 "without" ["rows","sums","name","most"] (spD K (iH))) (gM:mg "reversed"=none) (cA:mg "len"=none):Cal P w K mg base 5 "taken_out" ["rows","names"] (spD K e7):=by
 refine fn_D F cE iX fun fa cdv A outer s H E ds R hr h=>?_
 have hU:=hr.units
 refine⟨_,(ad (aA 2 cE.nd (aq nW (rm hr) rfl (ac (de_v 0) af))) (ad (et 3 cE.nd (ac (de_v 2) af)) (ad (gR PassesOwn.never rfl (Ar rfl gM (ac (de_v 1) af)) (ap 4 cE.nd) (ad (aA 2 cE.nd (aq iS (rm hr) rfl (ac (de_v 0) (ac (de_v 2) (ac (de_v 4) (ac (aC aS (zr 3 rfl cA gD) ae) af)))))) (ag (vB 3 (de_v 2))))) (ag (kw 3))))),?_⟩
 obtain ⟨nm,rows,B,N0,ns,rfl,F,h4,q⟩:=h
 have n4:=F.n4
 walk_at "rd"
 refine⟨rows,nm,rfl,F.H,by have:=F.m6;omega,?_⟩
 walk_at "rd"
 intro ta
 refine d5 fun Fb N hF hN=>?_
 simp only [kP]
 walk_at "rd"
 refine⟨fun i δ=>∃ x,δ=[.dat (.lst (rows.map rwD)),.dat (.lst (ns.map D.str)),.dat (stpD nm rows (stW rows (ns.drop (ns.length - i)))),.own ta (.lst ((tows rows (ns.drop (ns.length - i))).map (stpD nm rows))),x],⟨_,by rw [Nat.sub_zero,List.drop_length];rfl⟩,?_,?_⟩
 ·rintro i d δ hd ⟨x,rfl⟩
  obtain ⟨n,rfl,hi,hdr⟩:=x8 hd
  simp only [hdr]
  have hl:(ns.drop (ns.length - i)).length=i:=by rw [List.length_drop];omega
  generalize ns.drop (ns.length - i)=l at *
  rw [hF]
  show gU _ _ _ _
  refine cD fun K1 hK1=>?_
  walk_at "rd"
  obtain ⟨c1,c2⟩:=rJ (rows:=rows) F.m6 (by decide) l
  rw [hl] at c1 c2
  refine⟨nm,rows,n,stW rows l,l.length + 2,B,l.length,cnt 6 i,?_,F.sums (by omega),c1,c2,cnt6 (by omega),?_⟩
  ·rw [CK,f7]
   show [_,stpD nm rows (stW rows l),_,_]=_
   unfold stpD
   congr 4
  ·walk_at "rd"
   rw [hK1]
   walk_at "rd"
   refine⟨by rw [CK,f7];omega,rfl,rfl⟩
 ·rintro δ ⟨x,rfl⟩
  rw [List.length_reverse,CK,Nat.sub_self,hN]
  walk_at "rd"
  exact q
inductive eI (ds:List D) (R:D→Prop):Prop
 | mk (n:Str) (r:Rw) (ks:List Str) (ps:List (Int×Int)) (c κ T:Nat) (hh:ds=[.str n,rwD r,.dct ks (ps.map frD)]∧(r.2.1.map (·.1)).Nodup∧ks.length≤60∧(∀ t∈r.2.1,t.1≠n→t.1∈ks)∧cf r.2.1 n≠0∧Pt ks ps T∧T≤1000000∧ib (bot (pB ks ps) ks)≤κ∧c + κ≤7990 ∧
 ib (cf r.2.1 n)≤c∧(∀ t∈r.2.1,ib t.2≤c)∧ib r.2.2≤c∧R (frD (bnd ks ps n r)))
theorem jF:∀ ds R,eI ds R→ds.length=3:=fun _ _ h_0=>by obtain ⟨_,_,_,_,_,_,_,e,_⟩:=h_0;rw [e];rfl
theorem jf (p:Str×Int→Bool) (g:D→Option D) (h1:∀ t,p t=true→g (tmD t)=some (tmD t)) (h2:∀ t,p t=false→g (tmD t)=none):∀ ts:List (Str×Int),(ts.map tmD).filterMap g=(ts.filter p).map tmD
 | []=>rfl
 | t :: ts=>by
  rw [List.map_cons,List.filterMap_cons]
  cases e:p t with
  | true=>rw [h1 t e,Dc e,jf p g h1 h2 ts];rfl
  | false=>rw [h2 t e,Db (by rw [e];decide),jf p g h1 h2 ts]
theorem fK:ax ["name","row","point","others","known"] ["name","row","point"] (am s_bound_on):=⟨rfl,rfl,rfl,by decide +kernel,rfl,by decide +kernel,by decide +kernel⟩
theorem lr (F:Fd K mg "bound_on" s_bound_on ["name","row","point"]) (dy:Cal P w K mg base 1 "tops_of" ["names","point"] (spD K (f6))) (dE:Cal P w K mg base 2 "made" ["top","bottom"] (spD K (jU))) (aL:Cal P w K mg base 1 "weight_of" ["name","row"] (spD K (cv))) (b7:Cal P w K mg base 1 "top_of_sum" ["terms","tops"] (spD K (cY))):Cal P w K mg base 3 "bound_on" ["name","row","point"] (spD K eI):=by
 refine fn_D F fK jF fun fa cdv A outer s H E ds R hr h=>?_
 have hU:=hr.units
 refine⟨_,(ad (eK 3 fK.nd ["term"] [(0,"name")] rfl rfl (by decide +kernel) rfl (by decide +kernel) (bR ⟨rfl,trivial⟩) (bZ rfl) (bn ⟨⟨rfl,rfl,.inl rfl⟩,trivial⟩) (lH (ar au (de_v 1) ae (fun _ _=>rfl))) fun _ _ _ _ _=>⟨(ap 0 (show List.Nodup (["term","name"]:List Str) by decide +kernel)),(gY (aH (jG hU) (ar au (de_v 0) ae (fun _ _=>rfl)) (de_v 1) (aB _))),(de_v 0)⟩) (ad (aA 4 fK.nd (aq dy (rm hr) rfl (ac (cy ["term"] [] rfl rfl (by decide +kernel) rfl (by decide +kernel) (bR trivial) (bZ rfl) (bn trivial) (fP (de_v 3)) fun _ _ _ _ _=>⟨(ap 0 (show List.Nodup (["term"]:List Str) by decide +kernel)),dQ,(ar au (de_v 0) ae (fun _ _=>rfl))⟩) (ac (de_v 2) af)))) (ag (av (aq dE (rm hr) rfl (ac (aC jD (aC bF (ar au (de_v 1) ae (fun _ _=>rfl)) (ar au (de_v 4) ae (fun _ _=>rfl))) (aq b7 (rm hr) rfl (ac (de_v 3) (ac (ar au (de_v 4) ae (fun _ _=>rfl)) af)))) (ac (aC bF (aq aL (rm hr) rfl (ac (de_v 0) (ac (de_v 1) af))) (ar au (de_v 4) ae (fun _ _=>rfl))) af))))))),?_⟩
 obtain ⟨n,⟨k,ts,b⟩,ks,ps,c,κ,T,rfl,nd,hk,hp,hc,P,hT,hκ,hcκ,b1,b2,b3,q⟩:=h
 simp only at nd hp hc b1 b2 b3 q
 have lt:ts.length≤61:=by
  have h1:(ts.map (·.1)).length≤(n :: ks).length:=hZ nd fun x hx=>by
   obtain ⟨t,ht,rfl⟩:=CM.mp hx
   by_cases e:t.1=n
   ·exact CQ.mpr (.inl e)
   ·exact CL _ (hp t ht e)
  rw [CK,CZ] at h1
  omega
 unfold rwD rowD
 refine ak fun K1 hK1=>?_
 walk_at "rd"
 refine⟨by rw [CK];omega,fun d=>match d with | .tup [.str x,w]=>if x≠n then some (.tup [.str x,w]) else none | _=>none,fun x hx=>?_,?_⟩
 ·obtain ⟨t,_,rfl⟩:=CM.mp hx
  unfold tmD
  walk_at "rd"
  refine ite2 (fun e=>?_) fun e=>?_
  ·simp [e]
  ·simp [e]
 ·rw [jf (fun t=>decide (t.1≠n)) _ (fun t ht=>by unfold tmD;simp only;rw [if_pos (by simpa using ht)]) (fun t ht=>by unfold tmD;simp only;rw [if_neg (by simpa using ht)])]
  unfold bnd at q
  simp only at q
  have ho:∀ t∈ts.filter (fun t=>decide (t.1≠n)),t.1∈ks∧ib t.2≤c:=fun t ht=>by
   obtain ⟨h1,h2⟩:=C5.mp ht
   exact⟨hp t h1 (by simpa using h2),b2 t h1⟩
  have ndo:((ts.filter (fun t=>decide (t.1≠n))).map (·.1)).Nodup:=nd.sublist (List.filter_sublist.map _)
  have hlo:=List.length_filter_le (fun t:Str×Int=>decide (t.1≠n)) ts
  generalize ts.filter (fun t=>decide (t.1≠n))=o at *
  have hon:∀ x∈o.map (·.1),x∈ks:=fun x hx=>by
   obtain ⟨t,ht,rfl⟩:=CM.mp hx
   exact (ho t ht).1
  have pos:∀ x∈ks,0 < pB ks ps x:=fun x hx=>P.pos hx
  have bK:=lm ndo hon pos hκ
  have pK:=cV (q:=pB ks ps) (l:=o.map (·.1)) fun x hx=>pos x (hon x hx)
  rw [hK1]
  walk_at "rd"
  refine⟨by rw [CK];omega,fun d=>match d with | .tup (x :: _)=>some x | _=>none,fun x hx=>?_,?_⟩
  ·obtain ⟨t,_,rfl⟩:=CM.mp hx
   unfold tmD
   walk_at "rd"
  ·refine⟨o.map (·.1),ks,ps,T,κ,?_,ndo,?_,hon,P,hT,hκ,by omega,?_⟩
   ·rw [aN _ tmD (fun t=>D.str t.1) _ (by intro _ _;rfl),List.map_map];rfl
   ·have:=hZ ndo hon
    omega
   ·walk_at "rd"
    refine⟨mo2 b3 bK (by omega),true,o,_,_,_,rfl,fun t ht=>⟨cR (fun x=>D.int (ov (pT ks ps) (pB ks ps) (bot (pB ks ps) (o.map (·.1))) x)) (CM.mpr ⟨t,ht,rfl⟩),CN (ho t ht).2 (by omega),CN (intBits_mul_le (P.Tb (ho t ht).1) (intBits_fdiv_le bK)) (by omega)⟩,?_⟩
    walk_at "rd"
    refine⟨n,(k,ts,b),rfl,nd,?_⟩
    walk_at "rd"
    refine⟨mo2 b1 bK (by omega),_,_,rfl,Int.mul_ne_zero hc (by omega),CN (intBits_mul_le b1 bK) (by omega),?_⟩
    exact q
def oD:Option (Int×Int)→D
 | none=>.non
 | some p=>frD p
def endD (e:En2):D:=.tup [oD e.1,.bl e.2]
inductive iJ (ds:List D) (R:D→Prop):Prop
 | mk (a b:En2) (lo:Bool) (hh:ds=[endD a,endD b,.bl lo]∧(∀ p,a.1=some p→ib p.1≤1000000∧ib p.2≤8000)∧(∀ p,b.1=some p→ib p.1≤1000000∧ib p.2≤8000)∧R (endD (tgt lo a b)))
theorem kR:∀ ds R,iJ ds R→ds.length=3:=fun _ _ h_0=>by obtain ⟨_,_,_,e,_⟩:=h_0;rw [e];rfl
theorem qy:ax ["one","other","is_low"] ["one","other","is_low"] (am s_tighter):=⟨rfl,rfl,rfl,by decide +kernel,rfl,by decide +kernel,by decide +kernel⟩
theorem oh (F:Fd K mg "tighter" s_tighter ["one","other","is_low"]) (jX:Cal P w K mg base 1 "less" ["one","other"] (spD K (oN))):Cal P w K mg base 2 "tighter" ["one","other","is_low"] (spD K iJ):=by
 refine fn_D F qy kR fun fa cdv A outer s H E ds R hr h=>?_
 have hU:=hr.units
 refine⟨_,(ad (aR (aH o_is (ar au (de_v 0) ae (fun _ _=>rfl)) jZ (aB _)) (ag (av (de_v 1))) aD) (ad (aR (aH o_is (ar au (de_v 1) ae (fun _ _=>rfl)) jZ (aB _)) (ag (av (de_v 0))) aD) (ad (aR (aH (yt hU) (ar au (de_v 0) ae (fun _ _=>rfl)) (ar au (de_v 1) ae (fun _ _=>rfl)) (aB _)) (ag (av (aG (ac (ar au (de_v 0) ae (fun _ _=>rfl)) (ac (gS (ar au (de_v 0) ae (fun _ _=>rfl)) (cZ (ar au (de_v 1) ae (fun _ _=>rfl)))) af))))) aD) (ag (av (sK (aH (yt hU) (aq jX (rm hr) rfl (ac (ar au (de_v 1) ae (fun _ _=>rfl)) (ac (ar au (de_v 0) ae (fun _ _=>rfl)) af))) (de_v 2) (aB _)) (de_v 0) (de_v 1))))))),?_⟩
 obtain ⟨⟨a,ab⟩,⟨b,bb⟩,lo,rfl,ha,hb,q⟩:=h
 unfold endD at q ⊢
 cases a with
 | none =>
  unfold oD
  walk_at "rd"
  exact q
 | some p =>
  cases b with
  | none =>
   unfold oD frD
   walk_at "rd"
   exact q
  | some r =>
   obtain ⟨p1,p2⟩:=ha p rfl
   obtain ⟨r1,r2⟩:=hb r rfl
   unfold tgt at q
   simp only at q
   unfold oD frD
   walk_at "rd"
   refine ite2 (fun e=>?_) fun e=>?_
   ·have e:p=r:=Prod.ext (by simpa using congrArg Prod.fst e) (by simpa using congrArg Prod.snd e)
    rw [if_pos e] at q
    cases ab with
    | true=>exact ifp rfl q
    | false=>exact ifn Bool.false_ne_true q
   ·rw [if_neg (fun z=>e (by rw [z]))] at q
    refine⟨r,p,rfl,CN r1 (by decide),CN p1 (by decide),r2,p2,?_⟩
    walk_at "rd"
    refine ite2 (fun e=>?_) fun e=>?_
    ·rw [if_pos e] at q;exact q
    ·rw [if_neg e] at q;exact q
inductive fA (ds:List D) (R:D→Prop):Prop
 | mk (lo hi:Option (Int×Int)) (x y:Bool) (hh:ds=[.tup [oD lo,.bl x,oD hi,.bl y]]∧(∀ p,lo=some p→p.2≠0∧ib p.1≤1000000∧ib p.2≤3990)∧(∀ p,hi=some p→p.2≠0∧ib p.1≤1000000∧ib p.2≤3990)∧R (frD (nmb lo hi)))
theorem iP:∀ ds R,fA ds R→ds.length=1:=fun _ _ h_0=>by obtain ⟨_,_,_,_,e,_⟩:=h_0;rw [e];rfl
theorem cX:ax ["piece","low","high","whole"] ["piece"] (am s_number_in):=⟨rfl,rfl,rfl,by decide +kernel,rfl,by decide +kernel,by decide +kernel⟩
theorem k7 (F:Fd K mg "number_in" s_number_in ["piece"]) (dE:Cal P w K mg base 2 "made" ["top","bottom"] (spD K (jU))) (jX:Cal P w K mg base 1 "less" ["one","other"] (spD K (oN))) (mE:Cal P w K mg base 3 "times" ["one","other"] (spD K (nK))) (rH:Cal P w K mg base 3 "plus" ["one","other"] (spD K (rV))):Cal P w K mg base 4 "number_in" ["piece"] (spD K fA):=by
 refine fn_D F cX iP fun fa cdv A outer s H E ds R hr h=>?_
 have hU:=hr.units
 refine⟨_,(ad (aA 1 cX.nd (ar au (de_v 0) ae (fun _ _=>rfl))) (ad (aA 2 cX.nd (ar au (de_v 0) ae (fun _ _=>rfl))) (ad (aR (DW.dt (wm (aH o_is (de_v 1) jZ (aB _)) (sG (aH o_is (de_v 2) jZ (aB _))))) (ag (av (aG (ac ae (ac ae af))))) aD) (ad (aR (aH o_is (de_v 1) jZ (aB _)) (ag (av (aq dE (rm hr) rfl (ac (aC jD (aC eW (ar au (de_v 2) ae (fun _ _=>rfl)) (ar au (de_v 2) ae (fun _ _=>rfl))) ae) (ac ae af))))) aD) (ad (aA 3 cX.nd (aq dE (rm hr) rfl (ac (aC aS (aC eW (ar au (de_v 1) ae (fun _ _=>rfl)) (ar au (de_v 1) ae (fun _ _=>rfl))) ae) (ac ae af)))) (ad (aR (DW.dt (jB (aH o_is (de_v 2) jZ (aB _)) (eS (cm (aq jX (rm hr) rfl (ac (de_v 3) (ac (de_v 2) af))))))) (ag (av (de_v 3))) aD) (ad (aR (aH (yt hU) (de_v 1) (de_v 2) (aB _)) (ag (av (de_v 1))) aD) (ag (av (aq mE (rm hr) rfl (ac (aq rH (rm hr) rfl (ac (de_v 1) (ac (de_v 2) af))) (ac (aG (ac ae (ac ae af))) af)))))))))))),?_⟩
 obtain ⟨lo,hi,x,y,rfl,hl,hh,q⟩:=h
 have m1:∀ a:Int,ib (mkB a 1)≤1:=fun a=>by rw [(p9 a).2];decide
 refine ak fun K1 hK1=>?_
 walk_at "rd"
 rw [hK1]
 refine ak fun K2 hK2=>?_
 walk_at "rd"
 rw [hK2]
 refine ak fun K3 hK3=>?_
 cases lo with
 | none =>
  cases hi with
  | none =>
   unfold oD
   walk_at "rd"
   exact q
  | some h =>
   obtain ⟨h0,h1,h2⟩:=hh h rfl
   unfold oD frD
   walk_at "rd"
   rw [hK3]
   refine ak fun K4 hK4=>?_
   walk_at "rd"
   exact⟨⟨h0,qx h2 (by decide)⟩,_,_,rfl,by decide,by decide,q⟩
 | some l =>
  obtain ⟨l0,l1,l2⟩:=hl l rfl
  have bt:ib (mkT (l.1.fdiv l.2 + 1) 1)≤1000000 + 1:=by
   rw [(p9 _).1]
   have:=intBits_add_le (intBits_fdiv_le (y:=l.2) l1) (show ib 1≤1 by decide)
   unfold ib
   omega
  cases hi with
  | none =>
   unfold oD frD
   walk_at "rd"
   rw [hK3]
   refine ak fun K4 hK4=>?_
   walk_at "rd"
   rw [hK4]
   refine ak fun K5 hK5=>?_
   walk_at "rd"
   refine⟨⟨l0,qx l2 (by decide)⟩,_,_,rfl,by decide,by decide,?_⟩
   rw [hK5]
   refine ak fun K6 hK6=>?_
   walk_at "rd"
   exact q
  | some h =>
   obtain ⟨h0,h1,h2⟩:=hh h rfl
   unfold nmb at q
   simp only at q
   unfold oD frD
   walk_at "rd"
   rw [hK3]
   refine ak fun K4 hK4=>?_
   walk_at "rd"
   rw [hK4]
   refine ak fun K5 hK5=>?_
   walk_at "rd"
   refine⟨⟨l0,qx l2 (by decide)⟩,_,_,rfl,by decide,by decide,?_⟩
   rw [hK5]
   refine ak fun K6 hK6=>?_
   walk_at "rd"
   refine⟨(mkT (l.1.fdiv l.2 + 1) 1,mkB (l.1.fdiv l.2 + 1) 1),h,rfl,CN bt (by decide),CN h1 (by decide),CN (m1 _) (by decide),CN h2 (by decide),?_⟩
   walk_at "rd"
   refine ite2 (fun e=>?_) fun e=>?_
   ·rw [if_pos e] at q;exact q
   ·rw [if_neg e] at q
    rw [hK6]
    refine ak fun K7 hK7=>?_
    walk_at "rd"
    refine ite2 (fun e=>?_) fun e=>?_
    ·have e:l=h:=Prod.ext (by simpa using congrArg Prod.fst e) (by simpa using congrArg Prod.snd e)
     rw [if_pos e] at q;exact q
    ·rw [if_neg (fun z=>e (by rw [z]))] at q
     rw [hK7]
     walk_at "rd"
     refine⟨l,h,rfl,Int.mul_ne_zero l0 h0,l1,h1,CN l2 (by decide),CN h2 (by decide),?_⟩
     have sb:=intBits_mul_le l2 h2
     have st:=intBits_add_le (intBits_mul_le l1 h2) (intBits_mul_le h1 l2)
     have sl:=eU (l.1 * h.2 + h.1 * l.2) (Int.mul_ne_zero l0 h0)
     refine⟨(mkT (l.1 * h.2 + h.1 * l.2) (l.2 * h.2),mkB (l.1 * h.2 + h.1 * l.2) (l.2 * h.2)),(1,2),rfl,Int.mul_ne_zero sl.ne (by decide),CN (intBits_fdiv_le st) (by decide),by decide,CN (intBits_fdiv_le sb) (by decide),by decide,?_⟩
     exact q
theorem u6 {l:List (Rw×Int)}:(decide (kdS (kOf (stc l))=("least":Str)):Bool)=!stc l:=by cases stc l<;>rfl
structure Pcs (nm:List Str) (rows:List Rw) (ks:List Str) (ps:List (Int×Int)) (n:Str) (W:List (List Int)) (c κ g T:Nat) (L:Int):Prop where
 H:Rws nm rows
 k6:ks.length≤60
 nms:∀ w∈W,∀ t∈(smR nm rows w).2.1,t.1≠n→t.1∈ks
 P:Pt ks ps T
 hT:c + T + κ + 80≤1000000
 hκ:ib (bot (pB ks ps) ks)≤κ
 L0:L≠0
 hL:∀ k∈ks,pB ks ps k ∣ L
 hg:ib L≤g
 gκ:g≤κ
 cg:c + g≤3990
 cκ:c + κ≤7990
 cb:∀ w∈W,∀ x,ib (cfs (rows.zip w) x)≤c
 bb:∀ w∈W,ib (bds (rows.zip w))≤c
theorem Pcs.tb {nm:List Str} {rows:List Rw} {ks:List Str} {ps:List (Int×Int)} {n:Str} {W:List (List Int)} {c κ g T:Nat} {L:Int} (h:Pcs nm rows ks ps n W c κ g T L) {w:List Int} (hw:w∈W):∀ t∈(smR nm rows w).2.1,ib t.2≤c:=fun t ht=>by
 rw [(ku ht).2.2];exact h.cb w hw _
theorem Pcs.cnd {nm:List Str} {rows:List Rw} {ks:List Str} {ps:List (Int×Int)} {n:Str} {W:List (List Int)} {c κ g T:Nat} {L:Int} (h:Pcs nm rows ks ps n W c κ g T L) {w:List Int} (hw:w∈W) (hc:cfs (rows.zip w) n≠0):og L c g κ T (cnd nm rows ks ps n w).1 :=
 u7 h.P h.hκ h.L0 h.hL h.hg (gP h.H w) h.k6 (h.nms w hw) (by rw [dR h.H];exact hc) (by rw [dR h.H];exact h.cb w hw n) (h.tb hw) (h.bb w hw)
inductive fB (ds:List D) (R:D→Prop):Prop
 | mk (nm:List Str) (rows:List Rw) (ks:List Str) (ps:List (Int×Int)) (n:Str) (W:List (List Int)) (c κ g T:Nat) (L:Int) (hh:ds=[.str n,stpD nm rows W,.dct ks (ps.map frD)]∧Pcs nm rows ks ps n W c κ g T L ∧
 R (.tup [oD (pcs nm rows ks ps n W).1.1,.bl (pcs nm rows ks ps n W).1.2,oD (pcs nm rows ks ps n W).2.1,.bl (pcs nm rows ks ps n W).2.2]))
theorem iN:∀ ds R,fB ds R→ds.length=3:=fun _ _ h_0=>by obtain ⟨_,_,_,_,_,_,_,_,_,_,_,e,_⟩:=h_0;rw [e];rfl
theorem uA {nm:List Str} {rows:List Rw} {ks:List Str} {ps:List (Int×Int)} {n:Str} {W:List (List Int)} {i:Nat} {w:List Int} (h:W[i]?=some w):pcs nm rows ks ps n (W.take (i + 1)) =
    (if 0 < cfs (rows.zip w) n then tgt true (pcs nm rows ks ps n (W.take i)).1 (some (cnd nm rows ks ps n w).1,(cnd nm rows ks ps n w).2) else (pcs nm rows ks ps n (W.take i)).1,
     if cfs (rows.zip w) n < 0 then tgt false (pcs nm rows ks ps n (W.take i)).2 (some (cnd nm rows ks ps n w).1,(cnd nm rows ks ps n w).2) else (pcs nm rows ks ps n (W.take i)).2):=by
  unfold pcs
  rw [aF h,List.foldl_append]
  rfl
theorem bu:ax ["name","sums","point","low","high","row","weights","weight"] ["name","sums","point"] (am s_piece_for):=⟨rfl,rfl,rfl,by decide +kernel,rfl,by decide +kernel,by decide +kernel⟩
theorem kU (F:Fd K mg "piece_for" s_piece_for ["name","sums","point"]) (aL:Cal P w K mg base 1 "weight_of" ["name","row"] (spD K (cv))) (f8:Cal P w K mg base 2 "tighter" ["one","other","is_low"] (spD K (iJ))) (eN:Cal P w K mg base 3 "bound_on" ["name","row","point"] (spD K (eI))) (g_ENDLESS:GEnd K mg "ENDLESS"):Cal P w K mg base 4 "piece_for" ["name","sums","point"] (spD K fB):=by
 refine fn_D F bu iN fun fa cdv A outer s H E ds R hr h=>?_
 have hU:=hr.units
 refine⟨_,(ad (aA 3 bu.nd (sQ rfl g_ENDLESS)) (ad (aA 4 bu.nd (sQ rfl g_ENDLESS)) (ad (cJ PassesOwn.never rfl (de_v 1) (bY (n:=2) rfl (aw (ap 5 bu.nd) (aw (ap 6 bu.nd) aZ))) (ad (aA 7 bu.nd (aq aL (rm hr) rfl (ac (de_v 0) (ac (de_v 5) af)))) (ad (aR (aH o_gt (de_v 7) ae (aB _)) (ag (aA 3 bu.nd (aq f8 (rm hr) rfl (ac (de_v 3) (ac (aG (ac (aq eN (rm hr) rfl (ac (de_v 0) (ac (de_v 5) (ac (de_v 2) af)))) (ac (cN (o_eq hU) (ar au (de_v 5) ae (fun _ _=>rfl)) ay (aB _)) af))) (ac eh af)))))) aD) (ag (aR (aH o_lt (de_v 7) ae (aB _)) (ag (aA 4 bu.nd (aq f8 (rm hr) rfl (ac (de_v 4) (ac (aG (ac (aq eN (rm hr) rfl (ac (de_v 0) (ac (de_v 5) (ac (de_v 2) af)))) (ac (cN (o_eq hU) (ar au (de_v 5) ae (fun _ _=>rfl)) ay (aB _)) af))) (ac eh af)))))) aD))))) (ag (av (aC aS (de_v 3) (de_v 4))))))),?_⟩
 obtain ⟨nm,rows,ks,ps,n,W,c,κ,g,T,L,rfl,S,q⟩:=h
 unfold stpD
 refine ak fun K1 hK1=>?_
 walk_at "rd"
 rw [hK1]
 refine ak fun K2 hK2=>?_
 walk_at "rd"
 rw [hK2]
 refine ak fun K3 hK3=>?_
 refine c7 fun F N hF hN=>?_
 simp only [gq]
 walk_at "rd"
 refine⟨fun i δ=>∃ x y z,δ=[.dat (.str n),.dat (.lst (W.map (smD nm rows))),.dat (.dct ks (ps.map frD)),.dat (endD (pcs nm rows ks ps n (W.take i)).1),.dat (endD (pcs nm rows ks ps n (W.take i)).2),x,y,z],⟨_,_,_,rfl⟩,?_,?_⟩
 ·rintro i d δ hd ⟨x,y,z,rfl⟩
  obtain ⟨w,hw,rfl⟩:=oK hd
  have hm:=C1 hw
  have pre:=wE (nm:=nm) (rows:=rows) (ks:=ks) (ps:=ps) (n:=n) (Pr:=fun p=>ib p.1≤1000000∧ib p.2≤8000) (W:=W.take i) fun w hw hc=>by
   have k:=S.cnd (Dd hw) hc
   have k1:=k.bb
   have k2:=k.tb
   have k3:=S.cg
   have k4:=S.hT
   exact⟨by omega,by omega⟩
  rw [hF]
  simp only [uA hw]
  generalize pcs nm rows ks ps n (W.take i)=e at *
  obtain ⟨lo,hi⟩:=e
  show kT _ _ (.tup [rwD (smR nm rows w),.tup (w.map D.int)]) _ _
  refine cD fun K4 hK4=>?_
  walk_at "rd"
  refine⟨n,smR nm rows w,rfl,gP S.H w,?_⟩
  rw [dR S.H,hK4]
  have k6:=S.k6
  have bnd:cfs (rows.zip w) n≠0→∀ R:D→Prop,R (frD (cnd nm rows ks ps n w).1)→eI [.str n,rwD (smR nm rows w),.dct ks (ps.map frD)] R:=fun hc R r =>
   ⟨n,smR nm rows w,ks,ps,c,κ,T,rfl,gP S.H w,k6,S.nms w hm,by rw [dR S.H];exact hc,S.P,by have:=S.hT;omega,S.hκ,by have:=S.cκ;omega,by rw [dR S.H];exact S.cb w hm n,S.tb hm,S.bb w hm,r⟩
  have cb:cfs (rows.zip w) n≠0→∀ p,some (cnd nm rows ks ps n w).1=some p→ib p.1≤1000000∧ib p.2≤8000:=fun hc p hp=>by
   cases hp
   have k:=S.cnd hm hc
   have k1:=k.bb
   have k2:=k.tb
   have k3:=S.cg
   have k4:=S.hT
   exact⟨by omega,by omega⟩
  have word:∀ R:D→Prop,R (.bl (cnd nm rows ks ps n w).2)→fIx [rwD (smR nm rows w),.int 0] fun d=>fEq [d,.str "least"] R:=fun R r=>by
   unfold rwD rowD smR
   walk_at "rd"
   rw [u6]
   exact r
  generalize cnd nm rows ks ps n w=cn at *
  obtain ⟨cp,cs⟩:=cn
  rcases Int.lt_trichotomy (cfs (rows.zip w) n) 0 with hc | hc | hc
  ·refine ak fun K5 hK5=>?_
   walk_at "rd"
   refine ifn (by omega) ?_
   rw [hK5]
   walk_at "rd"
   refine ifp hc (bnd (by omega) _ (word _ ?_))
   refine⟨hi,(some cp,cs),false,rfl,pre.2,cb (by omega),?_⟩
   simp only [if_neg (show ¬ 0 < cfs (rows.zip w) n by omega),if_pos hc]
   first | exact⟨_,_,_,rfl⟩ | trivial | rfl
  ·refine ak fun K5 hK5=>?_
   walk_at "rd"
   refine ifn (by omega) ?_
   rw [hK5]
   walk_at "rd"
   refine ifn (by omega) ?_
   simp only [if_neg (show ¬ 0 < cfs (rows.zip w) n by omega),if_neg (show ¬ cfs (rows.zip w) n < 0 by omega)]
   first | exact⟨_,_,_,rfl⟩ | trivial | rfl
  ·refine ak fun K5 hK5=>?_
   walk_at "rd"
   refine ifp hc (bnd (by omega) _ (word _ ?_))
   refine⟨lo,(some cp,cs),true,rfl,pre.1,cb (by omega),?_⟩
   rw [hK5]
   walk_at "rd"
   refine ifn (by omega) ?_
   simp only [if_pos hc,if_neg (show ¬ cfs (rows.zip w) n < 0 by omega)]
   first | exact⟨_,_,_,rfl⟩ | trivial | rfl
 ·rintro δ ⟨x,y,z,rfl⟩
  rw [CK,C4,hN,hK3]
  unfold endD
  walk_at "rd"
  exact q
def fitQ (c:Nat→Nat):Nat→Nat→Nat→Nat→Bool
 | 0,κ,_,T=>decide (κ≤7990) && decide (T≤1000000)
 | k + 1,κ,g,T=>(decide (c k + g≤3990) && decide (c k + κ≤7990)) && (decide (g≤κ) && decide (c k + T + κ + 80≤1000000)) && fitQ c k (κ + (2 * c k + g + 2)) (2 * c k + 2 + g) (2 * (c k + T + κ + 72) + 2)
structure St (B:Nat) (nm:List Str) (rows:List Rw) (l ks:List Str) (ps:List (Int×Int)) (κ g T:Nat) (L:Int):Prop where
 P:Pt ks ps T
 hκ:ib (bot (pB ks ps) ks)≤κ
 L0:L≠0
 hL:∀ k∈ks,pB ks ps k ∣ L
 hg:ib L≤g
 fq:fitQ (cb B 6) l.length κ g T=true
 so:∀ w∈stW rows l,soR (ptR ks ps) (smR nm rows w)
theorem wU {ks:List Str} {ps:List (Int×Int)} {n:Str} {v:Int×Int} {T T':Nat} (P:Pt ks ps T) (hv:Low v.1 v.2) (hT:T≤T') (h1:ib v.1≤T') (h2:ib v.2≤T'):Pt (ks++[n]) (ps++[v]) T' :=
  ⟨by simp [P.len],fun p hp=>(CV.mp hp).elim (P.low p) fun z=>by rw [C2.mp z];exact hv,fun p hp=>(CV.mp hp).elim (fun z=>CN (P.b1 p z) hT) fun z=>by rw [C2.mp z];exact h1,
   fun p hp=>(CV.mp hp).elim (fun z=>CN (P.b2 p z) hT) fun z=>by rw [C2.mp z];exact h2⟩
theorem uK {ks:List Str} {ps:List (Int×Int)} {n:Str} {v:Int×Int} (hl:ps.length=ks.length) (hn:n∉ks):bot (pB (ks++[n]) (ps++[v])) (ks++[n])=bot (pB ks ps) ks * v.2:=by
 rw [gI,my]
 have e1:pB (ks++[n]) (ps++[v]) n=v.2:=by unfold pB;rw [gf hl hn,if_pos rfl]
 rw [e1]
 congr 1
 refine mo fun k hk=>?_
 unfold pB
 rw [gf hl hn,if_neg (fun (z:k=n)=>hn (z ▸ hk))]
theorem St.step {B N:Nat} {nm:List Str} {rows:List Rw} {n:Str} {l ks:List Str} {ps:List (Int×Int)} {κ g T:Nat} {L:Int} (F:Fit nm rows B N) (h:St B nm rows (n :: l) ks ps κ g T L) (hnk:n∉ks) (hkl:ks.length≤60) (hcov:∀ k∈nm,k∈ks∨k=n∨k∈l) :
  Pcs nm rows ks ps n (stW rows l) (cb B 6 l.length) κ g T L∧(∀ p,(pcs nm rows ks ps n (stW rows l)).1.1=some p→og L (cb B 6 l.length) g κ T p)∧(∀ p,(pcs nm rows ks ps n (stW rows l)).2.1=some p→og L (cb B 6 l.length) g κ T p) ∧
  ∃ κ' g' T' L',St B nm rows l (ks++[n]) (ps++[nmb (pcs nm rows ks ps n (stW rows l)).1.1 (pcs nm rows ks ps n (stW rows l)).2.1]) κ' g' T' L':=by
 obtain ⟨P,hκ,L0,hL,hg,fq,so⟩:=h
 have hfq:((cb B 6 l.length + g≤3990∧cb B 6 l.length + κ≤7990)∧(g≤κ∧cb B 6 l.length + T + κ + 80≤1000000))∧fitQ (cb B 6) l.length (κ + (2 * cb B 6 l.length + g + 2)) (2 * cb B 6 l.length + 2 + g) (2 * (cb B 6 l.length + T + κ + 72) + 2)=true:=by
  have:((decide (cb B 6 l.length + g≤3990) && decide (cb B 6 l.length + κ≤7990)) && (decide (g≤κ) && decide (cb B 6 l.length + T + κ + 80≤1000000)) && fitQ (cb B 6) l.length (κ + (2 * cb B 6 l.length + g + 2)) (2 * cb B 6 l.length + 2 + g) (2 * (cb B 6 l.length + T + κ + 72) + 2))=true:=fq
  simpa only [Bool.and_eq_true,decide_eq_true_eq] using this
 obtain ⟨⟨⟨f1,f1'⟩,f2,f2'⟩,f3⟩:=hfq
 have hcb:=BN (B:=B) F.m6 l.length
 have S:Pcs nm rows ks ps n (stW rows l) (cb B 6 l.length) κ g T L:=by
  refine⟨F.H,hkl,fun w hw t ht hne=>?_,P,f2',hκ,L0,hL,hg,f2,f1,f1',fun w hw x=>CN (F.H.cfb F.hB (dg F.H F.hB hw) x) hcb,fun w hw=>CN (Rws.bdb F.hB (dg F.H F.hB hw)) hcb⟩
  obtain ⟨m1,m2,_⟩:=ku ht
  rcases hcov t.1 m1 with z | z | z
  ·exact z
  ·exact absurd z hne
  ·exact absurd ((cL hw).2 _ z) m2
 have pof:=wE (nm:=nm) (rows:=rows) (ks:=ks) (ps:=ps) (n:=n) (Pr:=og L (cb B 6 l.length) g κ T) (W:=stW rows l) fun w hw hc=>S.cnd hw hc
 have bk:=back F.H so (tU hnk) (fun w hw t ht hne=>P.pos (S.nms w hw t ht hne))
 obtain ⟨s1,s2,M,m0,mb,md⟩:=uV L0 hg f2 pof.1 pof.2
 refine⟨S,pof.1,pof.2,_,_,_,M * L,wU P bk.1 (by omega) s1 (by omega),?_,Int.mul_ne_zero m0 L0,fun k hk=>?_,intBits_mul_le mb hg,f3,fun w hw=>?_⟩
 ·rw [uK P.len hnk]
  exact intBits_mul_le hκ s2
 ·unfold pB
  rw [gf P.len hnk]
  by_cases e:k=n
  ·rw [if_pos e];exact md
  ·rw [if_neg e]
   rcases CV.mp hk with z | z
   ·exact Int.dvd_trans (hL k z) (Int.dvd_mul_left ..)
   ·exact absurd (C2.mp z) e
 ·rw [oJ P.len hnk]
  exact bk.2 w hw
inductive d6 (ds:List D) (R:D→Prop):Prop
 | mk (nm:List Str) (rows:List Rw) (B N:Nat) (ns ks:List Str) (ps:List (Int×Int)) (κ g T:Nat) (L:Int) (hh:ds=[.lst ((tows rows ns).map (stpD nm rows)),.lst (ns.map D.str),.dct ks (ps.map frD)]∧Fit nm rows B N∧ns.length≤N∧ks.length≤20∧(ks++ns).Nodup∧(∀ n∈nm,n∈ks∨n∈ns)∧St B nm rows ns ks ps κ g T L∧R (.fd (ks++ns) ((fbk nm rows ns ks ps).map frD)))
theorem il:∀ ds R,d6 ds R→ds.length=3:=fun _ _ h_0=>by obtain ⟨_,_,_,_,_,_,_,_,_,_,_,e,_⟩:=h_0;rw [e];rfl
theorem B5 (o:Option (Int×Int)):D.im (oD o)=true:=by cases o<;>rfl
theorem Br {ns:List Str} {L:List D} {i:Nat} {d:D} (h:(zipD (ns.map D.str) L)[i]?=some d):∃ n e,ns[i]?=some n∧L[i]?=some e∧d=.tup [.str n,e]:=by
 unfold zipD at h
 rw [List.getElem?_zipWith] at h
 rw [C0] at h
 cases e1:ns[i]? with
 | none=>rw [e1] at h;cases h
 | some n =>
  rw [e1] at h
  cases e2:L[i]? with
  | none=>rw [e2] at h;cases h
  | some e=>rw [e2] at h;exact⟨n,e,rfl,rfl,(Option.some.inj h).symm⟩
theorem cut1 {α:Type} (xs:List α) (h:0 < xs.length):cut xs (some 1) none=xs.drop 1:=by
 unfold cut
 have e1:HT.sIx xs.length 0 (some 1)=1:=by unfold HT.sIx;simp;omega
 have e2:HT.sIx xs.length xs.length none=xs.length:=rfl
 rw [e1,e2]
 exact List.take_of_length_le (by rw [List.length_drop];omega)
theorem cS:ax ["steps","names","point","told","name","sums"] ["steps","names","point"] (am s_found_back):=⟨rfl,rfl,rfl,by decide +kernel,rfl,by decide +kernel,by decide +kernel⟩
theorem jK (F:Fd K mg "found_back" s_found_back ["steps","names","point"]) (fu:Cal P w K mg base 4 "number_in" ["piece"] (spD K (fA))) (fJ:Cal P w K mg base 4 "piece_for" ["name","sums","point"] (spD K (fB))) (tX:mg "dict"=none) (eO:mg "zip"=none):Cal P w K mg base 5 "found_back" ["steps","names","point"] (spD K d6):=by
 refine fn_D F cS il fun fa cdv A outer s H E ds R hr h=>?_
 have hU:=hr.units
 refine⟨_,(ad (vd 3 cS.nd rfl tX (de_v 2)) (ad (gR PassesOwn.never rfl (jT true true rfl eO (ac (de_v 1) (ac (jW (de_v 0) (fg ae) jg) af))) (bY (n:=2) rfl (aw (ap 4 cS.nd) (aw (ap 5 cS.nd) aZ))) (ag (gC 3 hU (aq fu (rm hr) rfl (ac (ve 3 fJ (rm hr) rfl (de_v 4) (de_v 5)) af)) (de_v 4)))) (jm 3 (ag (av (de_v 3)))))),?_⟩
 obtain ⟨nm,rows,B,N0,ns,ks,ps,κ,g,T,L,rfl,F,h4,k20,nd,cov,St0,q⟩:=h
 have n4:=F.n4
 refine ak fun K1 hK1=>?_
 walk_at "rd"
 refine⟨ks,ps.map frD,.inl ⟨rfl,rfl⟩,fun da=>?_⟩
 rw [hK1]
 refine ak fun K2 hK2=>?_
 refine d5 fun Fb N hF hN=>?_
 simp only [kP]
 walk_at "rd"
 rw [cut1 _ (by rw [CK,f7];omega),← List.map_drop]
 have zl:(zipD (ns.map D.str) (((tows rows ns).drop 1).map (stpD nm rows))).length=ns.length:=by
  unfold zipD
  rw [List.length_zipWith,CK,CK,List.length_drop,f7]
  omega
 refine⟨fun i δ=>∃ (ks':List Str) (ps':List (Int×Int)) (x y:Sl),δ=[.dat (.lst ((tows rows ns).map (stpD nm rows))),.dat (.lst (ns.map D.str)),.dat (.dct ks (ps.map frD)),.own da (.dct ks' (ps'.map frD)),x,y]∧ks'=ks++ns.take i∧fbk nm rows (ns.drop i) ks' ps'=fbk nm rows ns ks ps∧∃ κ g T L,St B nm rows (ns.drop i) ks' ps' κ g T L,⟨ks,ps,_,_,rfl,by simp,rfl,κ,g,T,L,St0⟩,?_,?_⟩
 ·rintro i d δ hd ⟨ks',ps',x,y,rfl,rfl,hfb,κ',g',T',L',S'⟩
  obtain ⟨n,e,hn,he,rfl⟩:=Br hd
  have hil:i < ns.length:=(CY.mp hn).1
  rw [C0,List.getElem?_drop,pA ns (1 + i) (by omega)] at he
  have he:=(Option.some.inj he).symm
  subst he
  have edr:ns.drop i=n :: ns.drop (i + 1):=by
   rw [List.drop_eq_getElem_cons hil]
   congr 1
   exact (CY.mp hn).2
  rw [Nat.add_comm 1 i]
  rw [edr] at hfb S'
  have nd3:(ks++ns.take i++n :: ns.drop (i + 1)).Nodup:=by
   rw [← edr,List.append_assoc,List.take_append_drop];exact nd
  have hnk:n∉ks++ns.take i:=fun z=>(List.nodup_append.mp nd3).2.2 n z n (CP ..) rfl
  have hcov:∀ k∈nm,k∈ks++ns.take i∨k=n∨k∈ns.drop (i + 1):=fun k hk=>by
   rcases cov k hk with z | z
   ·exact .inl (CU _ z)
   ·rw [← List.take_append_drop i ns,edr] at z
    rcases CV.mp z with z | z
    ·exact .inl (CT _ z)
    ·rcases CQ.mp z with z | z
     ·exact .inr (.inl z)
     ·exact .inr (.inr z)
  have hkl:(ks++ns.take i).length≤60:=by rw [CW,De];omega
  have tk1:ns.take (i + 1)=ns.take i++[n]:=aF hn
  simp only [tk1,← List.append_assoc]
  generalize ks++ns.take i=k0 at *
  generalize ns.drop (i + 1)=l at *
  obtain ⟨S,pf1,pf2,nxt⟩:=S'.step F hnk hkl hcov
  rw [hF]
  show kT _ _ (.tup [.str n,stpD nm rows (stW rows l)]) _ _
  walk_at "rd"
  refine⟨nm,rows,k0,ps',n,stW rows l,_,κ',g',T',L',rfl,S,?_⟩
  refine⟨by simp only [D.im,D.ims,B5];rfl,?_⟩
  have hfb':fbk nm rows l (k0++[n]) (ps'++[nmb (pcs nm rows k0 ps' n (stW rows l)).1.1 (pcs nm rows k0 ps' n (stW rows l)).2.1])=fbk nm rows ns ks ps:=hfb
  clear hfb
  have cg:=S.cg
  have hT:=S.hT
  generalize pcs nm rows k0 ps' n (stW rows l)=e at *
  obtain ⟨lo,hi⟩:=e
  simp only at pf1 pf2 nxt hfb' ⊢
  refine⟨lo.1,hi.1,lo.2,hi.2,rfl,fun p hp=>?_,fun p hp=>?_,?_⟩
  ·have k:=pf1 p hp
   have k1:=k.bb
   have k2:=k.tb
   exact⟨k.low.ne,by omega,by omega⟩
  ·have k:=pf2 p hp
   have k1:=k.bb
   have k2:=k.tb
   exact⟨k.low.ne,by omega,by omega⟩
  ·generalize nmb lo.1 hi.1=v at *
   have lk:k0.length < 9000:=by omega
   refine⟨lk,?_⟩
   rw [pE hnk,oE hnk]
   exact⟨ps'++[v],by rw [C3];rfl,rfl,hfb',nxt⟩
 ·rintro δ ⟨ks',ps',x,y,rfl,rfl,hfb,_⟩
  rw [zl] at hfb ⊢
  rw [List.drop_length] at hfb
  rw [C4,hN,hK2]
  have hfb:ps'=fbk nm rows ns ks ps:=hfb
  rw [hfb]
  walk_at "rd"
  exact q
def so0 (l:List (Rw×Int)):Bool:=mI (kOf (stc l)) 0 (bds l)
def slv (nm:List Str) (rows:List Rw) (ns:List Str):D:=match (stW rows ns).find? (fun w=>!so0 (rows.zip w)) with
 | some w=>.tup [.str "weights",.tup (w.map D.int)]
 | none=>.tup [.str "point",.fd ns ((fbk nm rows ns [] []).map frD)]
def None (rows:List Rw):Prop:=∀ x:Str→Rat,∃ r∈rows,¬ soR x r
inductive kn (ds:List D) (R:D→Prop):Prop
 | mk (nm:List Str) (rows:List Rw) (B N:Nat) (ns:List Str) (hh:ds=[.lst (rows.map rwD),.lst (ns.map D.str)]∧Fit nm rows B N∧ns.length≤N∧ns.Nodup∧(∀ n∈nm,n∈ns)∧(fitQ (cb B 6) ns.length 1 1 0=true∨None rows)∧R (slv nm rows ns))
theorem lU:∀ ds R,kn ds R→ds.length=2:=fun _ _ h_0=>by obtain ⟨_,_,_,_,_,e,_⟩:=h_0;rw [e];rfl
theorem sR {nm:List Str} {rows:List Rw} {ns:List Str} (hin:∀ n∈nm,n∈ns) {w:List Int} (hw:w∈stW rows ns):(smR nm rows w).2.1=[]:=by
 cases e:(smR nm rows w).2.1 with
 | nil=>rfl
 | cons t r =>
  have ht:t∈(smR nm rows w).2.1:=by rw [e];exact CP ..
  obtain ⟨h1,h2,_⟩:=ku ht
  exact absurd ((cL hw).2 _ (hin _ h1)) h2
theorem yg {nm:List Str} {rows:List Rw} {ns:List Str} (hin:∀ n∈nm,n∈ns) {w:List Int} (hw:w∈stW rows ns):rwD (smR nm rows w)=(Say.row (kOf (stc (rows.zip w))) [] (bds (rows.zip w))).D:=by
 have e:=sR hin hw
 show rowD _ (smR nm rows w).2.1 _=_
 rw [e];rfl
theorem Aw {nm:List Str} {rows:List Rw} {ns:List Str} (hin:∀ n∈nm,n∈ns) {w:List Int} (hw:w∈stW rows ns) (x:Str→Rat):so0 (rows.zip w)=true↔soR x (smR nm rows w):=by
 have e:=sR hin hw
 unfold soR so0
 rw [e]
 show _↔(match kOf (stc (rows.zip w)) with | .least=>((bds (rows.zip w):Int):Rat)≤0 | .more=>((bds (rows.zip w):Int):Rat) < 0)
 cases stc (rows.zip w)
 ·show decide (bds (rows.zip w)≤0)=true↔_
  rw [decide_eq_true_eq]
  exact (Rat.intCast_le_intCast (a:=bds (rows.zip w)) (b:=0)).symm
 ·show decide (bds (rows.zip w) < 0)=true↔_
  rw [decide_eq_true_eq]
  exact (Rat.intCast_lt_intCast (a:=bds (rows.zip w)) (b:=0)).symm
theorem lO {α:Type} {p:α→Bool} {l:List α} {i:Nat} {x:α} (h:l[i]?=some x) (hn:∀ y∈l.take i,p y=false) (hp:p x=true):l.find? p=some x:=by
 rw [← List.take_append_drop i l,List.find?_append]
 have e1:(l.take i).find? p=none:=List.find?_eq_none.mpr fun y hy=>by rw [hn y hy];decide
 have hi:i < l.length:=(CY.mp h).1
 rw [e1,List.drop_eq_getElem_cons hi,(CY.mp h).2,List.find?_cons_of_pos hp];rfl
theorem BM:∀ {k:Nat},k≤4→fitQ (cb 64 6) k 1 1 0=true
 | 0,_=>by decide
 | 1,_=>by decide
 | 2,_=>by decide
 | 3,_=>by decide
 | 4,_=>by decide
 | k + 5,h=>by omega
theorem vX {nm:List Str} {rows:List Rw} {ns:List Str} (H:Rws nm rows) (nd:ns.Nodup) (hin:∀ n∈nm,n∈ns) (so:∀ w∈stW rows ns,soR (ptR [] []) (smR nm rows w)):∀ r∈rows,soR (ptR ns (fbk nm rows ns [] [])) r:=fun r hr=>by
 obtain ⟨_,_,_,d⟩:=wu H ns [] [] rfl (fun _ h=>nomatch h) (by simpa using nd) (fun n hn=>.inr (hin n hn)) so
 rw [List.nil_append] at d
 obtain ⟨j,hj⟩:=List.getElem?_of_mem hr
 have:=d (unW rows.length j) (CM.mpr ⟨j,List.mem_range.mpr (CY.mp hj).1,rfl⟩)
 rw [oU H hj] at this
 exact this
theorem St.start {B N:Nat} {nm:List Str} {rows:List Rw} {ns:List Str} (F:Fit nm rows B N) (nd:ns.Nodup) (hin:∀ n∈nm,n∈ns) (fq:fitQ (cb B 6) ns.length 1 1 0=true∨None rows) (so:∀ w∈stW rows ns,soR (ptR [] []) (smR nm rows w)):St B nm rows ns [] [] 1 1 0 1:=by
 refine⟨⟨rfl,(fun _ h=>nomatch h),(fun _ h=>nomatch h),(fun _ h=>nomatch h)⟩,by show ib 1≤1;decide,by decide,(fun _ h=>nomatch h),by decide,?_,so⟩
 rcases fq with h | h
 ·exact h
 ·obtain ⟨r,hr,no⟩:=h (ptR ns (fbk nm rows ns [] []))
  exact absurd (vX F.H nd hin so r hr) no
theorem fO:ax ["rows","names","steps","row","weights"] ["rows","names"] (am s_solved):=⟨rfl,rfl,rfl,by decide +kernel,rfl,by decide +kernel,by decide +kernel⟩
theorem qd (F:Fd K mg "solved" s_solved ["rows","names"]) (fm:Cal P w K mg base 5 "taken_out" ["rows","names"] (spD K (e7))) (nI:Cal P w K mg base 64 "is_so" ["saying","point"] (spD K (nS))) (dZ:Cal P w K mg base 5 "found_back" ["steps","names","point"] (spD K (d6))):Cal P w K mg base 65 "solved" ["rows","names"] (spD K kn):=by
 refine fn_D F fO lU fun fa cdv A outer s H E ds R hr h=>?_
 have hU:=hr.units
 refine⟨_,(ad (aA 2 fO.nd (aq fm (rm hr) rfl (ac (de_v 0) (ac (de_v 1) af)))) (ad (cJ PassesOwn.never rfl (ar au (de_v 2) ae (fun _ _=>rfl)) (bY (n:=2) rfl (aw (ap 3 fO.nd) (aw (ap 4 fO.nd) aZ))) (ag (aR (eX (cm (aq nI (rm hr) rfl (ac (de_v 3) (ac oZ af))))) (ag (av (aG (ac ay (ac (de_v 4) af))))) aD))) (ag (av (aG (ac ay (ac (aq dZ (rm hr) rfl (ac (de_v 2) (ac (de_v 1) (ac oZ af)))) af))))))),?_⟩
 obtain ⟨nm,rows,B,N0,ns,rfl,F,h4,nd,hin,fq,q⟩:=h
 refine ak fun K1 hK1=>?_
 walk_at "rd"
 refine⟨nm,rows,B,N0,ns,rfl,F,h4,?_⟩
 rw [hK1]
 have e0:(tows rows ns).map (stpD nm rows)=stpD nm rows (stW rows ns) :: ((tows rows ns).drop 1).map (stpD nm rows):=by
  cases ns<;>rfl
 refine ak fun K2 hK2=>?_
 refine c7 fun Fb N hF hN=>?_
 simp only [gq]
 rw [e0]
 walk_at "rd"
 rw [← e0]
 refine⟨(stW rows ns).map (smD nm rows),rfl,fun i δ=>∃ x y,δ=[.dat (.lst (rows.map rwD)),.dat (.lst (ns.map D.str)),.dat (.lst ((tows rows ns).map (stpD nm rows))),x,y]∧∀ w∈(stW rows ns).take i,so0 (rows.zip w)=true,⟨_,_,rfl,fun w hw=>by simp at hw⟩,?_,?_⟩
 ·rintro i d δ hd ⟨x,y,rfl,ho⟩
  obtain ⟨w,hw,rfl⟩:=oK hd
  have hm:=C1 hw
  rw [hF]
  show kT _ _ (.tup [rwD (smR nm rows w),.tup (w.map D.int)]) _ _
  walk_at "rd"
  have bb:ib (bds (rows.zip w))≤10000:=by
   have h1:=Rws.bdb F.hB (dg F.H F.hB hm)
   have h2:=F.ck h4
   unfold cb at h2
   omega
  refine⟨Say.row (kOf (stc (rows.zip w))) [] (bds (rows.zip w)),[],[],[],0,1,?_,by show 1≤60;decide,⟨⟨by simp,(fun _ h=>nomatch h),(fun _ h=>nomatch h)⟩,bb⟩,by decide,(fun _ h=>nomatch h),⟨rfl,(fun _ h=>nomatch h),(fun _ h=>nomatch h),(fun _ h=>nomatch h)⟩,by decide,by show ib 1≤1;decide,by decide,?_⟩
  ·rw [yg hin hm];rfl
  ·have e1:(Say.row (kOf (stc (rows.zip w))) [] (bds (rows.zip w))).tv (pT [] []) (pB [] [])=so0 (rows.zip w):=by
    show mI _ 0 (bds (rows.zip w) * 1)=_
    rw [Int.mul_one];rfl
   rw [e1]
   cases e:so0 (rows.zip w) with
   | false =>
    refine⟨false,rfl,ifp rfl ?_⟩
    have:=lO (p:=fun w=>!so0 (rows.zip w)) hw (fun y hy=>by rw [ho y hy];rfl) (by rw [e];rfl)
    unfold slv at q
    rw [this] at q
    exact q
   | true =>
    refine⟨true,rfl,ifn (by decide) ?_⟩
    rw [aF hw]
    intro u hu
    rcases CV.mp hu with hu | hu
    ·exact ho u hu
    ·rw [C2.mp hu];exact e
 ·rintro δ ⟨x,y,rfl,ho⟩
  rw [CK,C4] at ho
  rw [hN,hK2]
  have en:(stW rows ns).find? (fun w=>!so0 (rows.zip w))=none:=List.find?_eq_none.mpr fun w hw=>by rw [ho w hw];decide
  unfold slv at q
  rw [en] at q
  walk_at "rd"
  refine⟨nm,rows,B,N0,ns,[],[],1,1,0,1,rfl,F,h4,by decide,by simpa using nd,fun n hn=>.inr (hin n hn),St.start F nd hin fq fun w hw=>(Aw hin hw _).mp (ho w hw),?_⟩
  walk_at "rd"
  exact q
theorem zz {ss nm:List Str} (h1:Srt ss) (n1:ss.Nodup) (h2:nm.Pairwise leS) (n2:nm.Nodup) (h:∀ n,n∈ss↔n∈nm):ss=nm:=kz (sC h1) h2 n1 n2 h
theorem qY {l nm:List Str} (h1:l.Pairwise leS) (n1:l.Nodup) (h2:nm.Pairwise leS) (n2:nm.Nodup) (h:∀ n∈l,n∈nm):l.Sublist nm:=by
 have e:l=nm.filter fun n=>decide (n∈l):=kz h1 (h2.filter _) n1 (n2.filter _) fun n=>by
  rw [C5]
  exact⟨fun z=>⟨h n z,by simpa using z⟩,fun z=>by simpa using z.2⟩
 rw [e]
 exact List.filter_sublist
theorem vY {nm:List Str} {rows:List Rw} {B N:Nat} (F:Fit nm rows B N):∀ (ns ks:List Str) (ps:List (Int×Int)) (κ g T:Nat) (L:Int),St B nm rows ns ks ps κ g T L→(ks++ns).Nodup→(ks++ns).length≤60→(∀ n∈nm,n∈ks∨n∈ns) →
  ∃ κ g T L,St B nm rows [] (ks++ns) (fbk nm rows ns ks ps) κ g T L
 | [],ks,ps,κ,g,T,L,S,nd,hl,cov=>by
  rw [List.append_nil]
  exact⟨κ,g,T,L,S⟩
 | n :: l,ks,ps,κ,g,T,L,S,nd,hl,cov=>by
  have hnk:n∉ks:=fun z=>(List.nodup_append.mp nd).2.2 n z n (CP ..) rfl
  obtain ⟨_,_,_,κ',g',T',L',S'⟩:=S.step F hnk (by rw [CW] at hl;omega) fun k hk=>by
   rcases cov k hk with z | z
   ·exact .inl z
   ·exact .inr (CQ.mp z)
  have e:ks++n :: l=ks++[n]++l:=by simp
  rw [e] at nd hl ⊢
  exact vY F l (ks++[n]) _ κ' g' T' L' S' nd hl fun k hk=>by
   rcases cov k hk with z | z
   ·exact .inl (CU _ z)
   ·rcases CQ.mp z with z | z
    ·exact .inl (CT _ (C2.mpr z))
    ·exact .inr z
structure mi (rows:List Rw) (w:List Int):Prop where
 wt:Wt rows.length w
 no:∀ n,cfs (rows.zip w) n=0
 bd:0 < bds (rows.zip w)∨(bds (rows.zip w)=0∧stc (rows.zip w)=true)
structure Meets (nm:List Str) (rows:List Rw) (ps:List (Int×Int)):Prop where
 P:Pt nm ps 1000000
 κ:ib (bot (pB nm ps) nm)≤7990
 so:∀ r∈rows,soR (ptR nm ps) r
theorem zG {nm:List Str} {rows:List Rw} {B N:Nat} {ns:List Str} (F:Fit nm rows B N) (h4:ns.length≤N) (nd:ns.Nodup) (hin:∀ n∈nm,n∈ns) (fq:fitQ (cb B 6) ns.length 1 1 0=true∨None rows) :
  (∃ w,slv nm rows ns=.tup [.str "weights",.tup (w.map D.int)]∧mi rows w∧∀ a∈w,ib a≤wb B 6 ns.length)∨∃ ps,slv nm rows ns=.tup [.str "point",.fd ns (ps.map frD)]∧Meets ns rows ps:=by
 unfold slv
 cases e:(stW rows ns).find? (fun w=>!so0 (rows.zip w)) with
 | some w =>
  have hw:=List.mem_of_find?_eq_some e
  have hp:(!so0 (rows.zip w))=true:=by have:=List.find?_some e;exact this
  obtain ⟨wt,an⟩:=cL hw
  refine .inl ⟨w,rfl,⟨wt,fun n=>?_,?_⟩,fun a ha=>?_⟩
  ·refine CS fun z=>z (an n (hin n (F.H.cfs z)))
  ·unfold so0 at hp
   cases h:stc (rows.zip w)
   ·rw [h] at hp
    have:¬ bds (rows.zip w)≤0:=by
     have hp:(!decide (bds (rows.zip w)≤0))=true:=hp
     simpa using hp
    exact .inl (by omega)
   ·rw [h] at hp
    have:¬ bds (rows.zip w) < 0:=by
     have hp:(!decide (bds (rows.zip w) < 0))=true:=hp
     simpa using hp
    by_cases z:bds (rows.zip w)=0
    ·exact .inr ⟨z,rfl⟩
    ·exact .inl (by omega)
  ·exact CN (dg F.H F.hB hw a ha) (vi (Nat.le_refl B) F.m6 _)
 | none =>
  have all:∀ w∈stW rows ns,so0 (rows.zip w)=true:=fun w hw=>by
   have:=List.find?_eq_none.mp e w hw
   simpa using this
  have so:∀ w∈stW rows ns,soR (ptR [] []) (smR nm rows w):=fun w hw=>(Aw hin hw _).mp (all w hw)
  have n4:=F.n4
  obtain ⟨κ,g,T,L,S⟩:=vY F ns [] [] 1 1 0 1 (St.start F nd hin fq so) (by simpa using nd) (by simp;omega) (fun n hn=>.inr (hin n hn))
  rw [List.nil_append] at S
  have hf:κ≤7990∧T≤1000000:=by
   have:(decide (κ≤7990) && decide (T≤1000000))=true:=S.fq
   simpa only [Bool.and_eq_true,decide_eq_true_eq] using this
  exact .inr ⟨_,rfl,S.P.mono hf.2,CN S.hκ hf.1,vX F.H nd hin so⟩
theorem rG {a b c:Rat} (h:0 < c):c * a≤c * b↔a≤b :=
 ⟨fun z=>Rat.not_lt.mp fun y=>absurd (Rat.mul_lt_mul_of_pos_left y h) (Rat.not_lt.mpr z),fun z=>Rat.mul_le_mul_of_nonneg_left z (Rat.le_of_lt h)⟩
theorem xx {ks:List Str} {ps:List (Int×Int)} {k:Kd} {ts:List (Str×Int)} {b:Int} (h:∀ t∈ts,0 < pB ks ps t.1):qp (pT ks ps) (pB ks ps) k ts b=true↔soR (ptR ks ps) (k,ts,b):=by
 have hK:0 < bot (pB ks ps) (ts.map (·.1)):=cV fun n hn=>by
  obtain ⟨t,h1,rfl⟩:=CM.mp hn
  exact h t h1
 have e:=ml (ks:=ks) (ps:=ps) (K:=bot (pB ks ps) (ts.map (·.1))) (ts:=ts) fun t ht=>⟨h t ht,dY (CM.mpr ⟨t,ht,rfl⟩)⟩
 unfold qp
 generalize bot (pB ks ps) (ts.map (·.1))=K at *
 have k0:=fT hK
 generalize sumT (ov (pT ks ps) (pB ks ps) K) ts=S at *
 have key:∀ x:Rat,(S:Rat)=(K:Rat) * x→(((b:Rat)≤x↔b * K≤S)∧((b:Rat) < x↔b * K < S)):=fun x hx=>by
  have e1:((b * K:Int):Rat)=(b:Rat) * (K:Rat):=Df ..
  constructor
  ·rw [← Rat.intCast_le_intCast,e1,hx,Rat.mul_comm (b:Rat)]
   exact (rG k0).symm
  ·rw [← Rat.intCast_lt_intCast,e1,hx,Rat.mul_comm (b:Rat)]
   exact (Rat.mul_lt_mul_left k0).symm
 obtain ⟨k1,k2⟩:=key _ e
 cases k with
 | least=>show decide (b * K≤S)=true↔_;rw [decide_eq_true_eq];exact k1.symm
 | more=>show decide (b * K < S)=true↔_;rw [decide_eq_true_eq];exact k2.symm
theorem rS {ns:List Int} {n:Nat} (hb:∀ c∈ns,Builtin.Int.intBits c≤n) (k:Int):Builtin.Int.intBits (dD ns k)≤n:=by
 unfold dD
 rw [List.getD_eq_getElem?_getD]
 cases e:ns[k.toNat]? with
 | none=>exact CN (by decide:Builtin.Int.intBits 0≤0) (Nat.zero_le _)
 | some c=>exact hb c (C1 e)
theorem xm {α β:Type} (f:α→β) (l:List α) (lo hi:Option Int):cut (l.map f) lo hi=(cut l lo hi).map f:=by
 unfold cut
 rw [CK,List.map_take,List.map_drop]
theorem yx {α:Type} {l:List α} {lo hi:Option Int} {x:α} (h:x∈cut l lo hi):x∈l:=List.mem_of_mem_drop (Dd h)
theorem xQ {α:Type} {l:List α} (a b:Nat):(cut l (some (a:Int)) (some (b:Int))).length≤b - a:=by
 unfold cut
 rw [De,List.length_drop,HT.sIx_nat,HT.sIx_nat];omega
def Say.kr:Say→List (List Rw)
 | .row k ts b=>[[(k,ts,b)]]
 | .nt _=>[]
 | .bo s t=>s.kr.flatMap fun c=>t.kr.map fun d=>c++d
 | .ei s t=>s.kr++t.kr
def sayR (r:Rw):Say:=.row r.1 r.2.1 r.2.2
theorem Say.cs_kr:∀ {s:Say},s.cs=s.kr.map fun c=>c.map sayR
 | .row _ _ _=>rfl
 | .nt _=>rfl
 | .bo s t=>by
  show (s.cs.flatMap fun c=>t.cs.map fun d=>c++d)=(s.kr.flatMap fun c=>t.kr.map fun d=>c++d).map _
  rw [Say.cs_kr (s:=s),Say.cs_kr (s:=t),List.flatMap_map,List.map_flatMap]
  congr 1
  funext c
  rw [List.map_map,List.map_map]
  congr 1
  funext d
  show _=List.map sayR (c++d)
  rw [C3];rfl
 | .ei s t=>by
  show s.cs++t.cs=(s.kr++t.kr).map _
  rw [Say.cs_kr (s:=s),Say.cs_kr (s:=t),C3]
def krD (K:List (List Rw)):D:=.lst (K.map fun c=>.lst (c.map rwD))
theorem wf {s:Say}:csD s.cs=krD s.kr:=by
 unfold csD krD dS
 rw [Say.cs_kr,List.map_map]
 congr 2
 funext c
 show DL.D.lst ((c.map sayR).map Say.D)=_
 rw [List.map_map];rfl
theorem Say.kr_num {s:Say} (h:s.pn=true):s.kr.length=s.num:=by rw [← Say.cs_num h,Say.cs_kr,CK]
theorem Say.kr_long {s:Say} (h:s.pn=true) {c:List Rw} (hc:c∈s.kr):c.length≤s.long:=by
 have:=Say.cs_long h (c.map sayR) (by rw [Say.cs_kr];exact CM.mpr ⟨c,hc,rfl⟩)
 rwa [CK] at this
def Say.bt (B:Nat):Say→Prop
 | .row _ ts b=>(∀ t∈ts,ib t.2≤B)∧ib b≤B
 | .nt s=>s.bt B
 | .bo s t=>s.bt B∧t.bt B
 | .ei s t=>s.bt B∧t.bt B
theorem Say.pl_bt {B:Nat}:∀ {s:Say} {t:Bool},s.bt B→(s.pl t).bt B
 | .row k ts b,true,h=>⟨fun t ht=>by
   obtain ⟨u,hu,rfl⟩:=CM.mp ht
   exact intBits_neg_le (h.1 u hu),intBits_neg_le h.2⟩
 | .row k ts b,false,h=>h
 | .nt s,t,h=>Say.pl_bt (s:=s) h
 | .bo s u,true,h=>⟨Say.pl_bt h.1,Say.pl_bt h.2⟩
 | .bo s u,false,h=>⟨Say.pl_bt h.1,Say.pl_bt h.2⟩
 | .ei s u,true,h=>⟨Say.pl_bt h.1,Say.pl_bt h.2⟩
 | .ei s u,false,h=>⟨Say.pl_bt h.1,Say.pl_bt h.2⟩
theorem Say.kr_row {names:List Str} {B:Nat}:∀ {s:Say},s.ok names→s.bt B→∀ c∈s.kr,∀ r∈c,jE names r.2.1∧(∀ t∈r.2.1,ib t.2≤B)∧ib r.2.2≤B∧∀ n∈r.2.1.map (·.1),n∈s.nms
 | .row k ts b,o,h,c,hc,r,hr=>by
  rw [C2.mp hc] at hr
  rw [C2.mp hr]
  exact⟨o.1,h.1,h.2,fun n hn=>hn⟩
 | .bo s t,o,h,c,hc,r,hr=>by
  obtain ⟨x,hx,hy⟩:=List.mem_flatMap.mp hc
  obtain ⟨y,hz,rfl⟩:=CM.mp hy
  rcases CV.mp hr with hr | hr
  ·obtain ⟨a,b,d,e⟩:=Say.kr_row o.1 h.1 x hx r hr
   exact⟨a,b,d,fun n hn=>CU _ (e n hn)⟩
  ·obtain ⟨a,b,d,e⟩:=Say.kr_row o.2 h.2 y hz r hr
   exact⟨a,b,d,fun n hn=>CT _ (e n hn)⟩
 | .ei s t,o,h,c,hc,r,hr=>by
  rcases CV.mp hc with hc | hc
  ·obtain ⟨a,b,d,e⟩:=Say.kr_row o.1 h.1 c hc r hr
   exact⟨a,b,d,fun n hn=>CU _ (e n hn)⟩
  ·obtain ⟨a,b,d,e⟩:=Say.kr_row o.2 h.2 c hc r hr
   exact⟨a,b,d,fun n hn=>CT _ (e n hn)⟩
def Say.sx (x:Str→Rat):Say→Prop
 | .row k ts b=>soR x (k,ts,b)
 | .nt s=>¬ s.sx x
 | .bo s t=>s.sx x∧t.sx x
 | .ei s t=>s.sx x∨t.sx x
theorem oQ {x:Str→Rat}:∀ {ts:List (Str×Int)},sumR x (negT ts)=-sumR x ts
 | []=>by show (0:Rat)=-0;grind
 | t :: ts=>by
  show ((-t.2:Int):Rat) * x t.1 + sumR x (negT ts)=-((t.2:Rat) * x t.1 + sumR x ts)
  rw [oQ,Rat.intCast_neg];grind
theorem xR {x:Str→Rat} {k:Kd} {ts:List (Str×Int)} {b:Int}:soR x (k.op,negT ts,-b)↔¬ soR x (k,ts,b):=by
 have e:=oQ (x:=x) (ts:=ts)
 cases k with
 | least =>
  show (((-b:Int):Rat) < sumR x (negT ts))↔¬ ((b:Rat)≤sumR x ts)
  rw [e,Rat.intCast_neg];grind
 | more =>
  show (((-b:Int):Rat)≤sumR x (negT ts))↔¬ ((b:Rat) < sumR x ts)
  rw [e,Rat.intCast_neg];grind
theorem Say.pl_sx {x:Str→Rat}:∀ {s:Say} {t:Bool},(s.pl t).sx x↔(if t=true then ¬ s.sx x else s.sx x)
 | .row k ts b,true=>by rw [if_pos rfl];exact xR
 | .row k ts b,false=>Iff.rfl
 | .nt s,true=>by show (s.pl false).sx x↔_;rw [Say.pl_sx,if_pos rfl];show (if false=true then _ else s.sx x)↔¬ ¬ s.sx x;simp
 | .nt s,false=>by show (s.pl true).sx x↔_;rw [Say.pl_sx];simp [Say.sx]
 | .bo s u,true=>by show ((s.pl true).sx x∨(u.pl true).sx x)↔_;rw [Say.pl_sx,Say.pl_sx];simp only [if_true,Say.sx];exact Classical.not_and_iff_not_or_not.symm
 | .bo s u,false=>by show ((s.pl false).sx x∧(u.pl false).sx x)↔_;rw [Say.pl_sx,Say.pl_sx];simp [Say.sx]
 | .ei s u,true=>by show ((s.pl true).sx x∧(u.pl true).sx x)↔_;rw [Say.pl_sx,Say.pl_sx];simp [Say.sx]
 | .ei s u,false=>by show ((s.pl false).sx x∨(u.pl false).sx x)↔_;rw [Say.pl_sx,Say.pl_sx];simp [Say.sx]
theorem Say.kr_sx {x:Str→Rat}:∀ {s:Say},s.pn=true→(s.sx x↔∃ c∈s.kr,∀ r∈c,soR x r)
 | .row k ts b,_=>by
  constructor
  ·exact fun h=>⟨[(k,ts,b)],C2.mpr rfl,fun r hr=>by rw [C2.mp hr];exact h⟩
  ·rintro ⟨c,hc,h⟩
   rw [C2.mp hc] at h
   exact h _ (C2.mpr rfl)
 | .bo s t,h=>by
  obtain ⟨h1,h2⟩:=Dh.mp h
  show (s.sx x∧t.sx x)↔_
  rw [Say.kr_sx h1,Say.kr_sx h2]
  constructor
  ·rintro ⟨⟨c,hc,a⟩,d,hd,b⟩
   refine⟨c++d,List.mem_flatMap.mpr ⟨c,hc,CM.mpr ⟨d,hd,rfl⟩⟩,fun r hr=>?_⟩
   rcases CV.mp hr with hr | hr
   ·exact a r hr
   ·exact b r hr
  ·rintro ⟨e,he,a⟩
   obtain ⟨c,hc,hy⟩:=List.mem_flatMap.mp he
   obtain ⟨d,hd,rfl⟩:=CM.mp hy
   exact⟨⟨c,hc,fun r hr=>a r (CU _ hr)⟩,d,hd,fun r hr=>a r (CT _ hr)⟩
 | .ei s t,h=>by
  obtain ⟨h1,h2⟩:=Dh.mp h
  show (s.sx x∨t.sx x)↔_
  rw [Say.kr_sx h1,Say.kr_sx h2]
  constructor
  ·rintro (⟨c,hc,a⟩ | ⟨c,hc,a⟩)
   ·exact⟨c,CU _ hc,a⟩
   ·exact⟨c,CT _ hc,a⟩
  ·rintro ⟨c,hc,a⟩
   rcases CV.mp hc with hc | hc
   ·exact .inl ⟨c,hc,a⟩
   ·exact .inr ⟨c,hc,a⟩
theorem Say.tv_sx {ks:List Str} {ps:List (Int×Int)}:∀ {s:Say},(∀ n∈s.nms,0 < pB ks ps n)→(s.tv (pT ks ps) (pB ks ps)=true↔s.sx (ptR ks ps))
 | .row k ts b,h=>xx fun t ht=>h _ (CM.mpr ⟨t,ht,rfl⟩)
 | .nt s,h=>by show (!s.tv _ _)=true↔¬ s.sx _;rw [← Say.tv_sx (s:=s) h];simp
 | .bo s t,h=>by show (s.tv _ _ && t.tv _ _)=true↔_;rw [Dh,Say.tv_sx (s:=s) fun n hn=>h n (CU _ hn),Say.tv_sx (s:=t) fun n hn=>h n (CT _ hn)];rfl
 | .ei s t,h=>by show (s.tv _ _ || t.tv _ _)=true↔_;rw [Bool.or_eq_true_iff,Say.tv_sx (s:=s) fun n hn=>h n (CU _ hn),Say.tv_sx (s:=t) fun n hn=>h n (CT _ hn)];rfl
theorem iB:∀ {w v:List Int},v.map D.int=w.map D.int→v=w
 | [],[],_=>rfl
 | [],_ :: _,h=>by cases h
 | _ :: _,[],h=>by cases h
 | a :: w,b :: v,h=>by
  simp only [List.map_cons,List.cons.injEq,D.int.injEq] at h
  rw [h.1,iB h.2]
theorem wB {x:Str→Rat}:∀ {l:List (Rw×Int)},(∀ p∈l,soR x p.1∧0≤p.2)→0≤evl x l∧(stc l=true→0 < evl x l)
 | [],_=>⟨by show (0:Rat)≤0;grind,fun h=>by cases h⟩
 | (⟨k,ts,b⟩,c) :: r,h=>by
  obtain ⟨i1,i2⟩:=wB (x:=x) (l:=r) fun q hq=>h q (CL _ hq)
  obtain ⟨h1,h2⟩:=h _ (CP ..)
  have h2:(0:Rat)≤((c:Int):Rat):=Rat.intCast_nonneg.mpr h2
  have e:evl x ((⟨k,ts,b⟩,c) :: r)=((c:Int):Rat) * (sumR x ts - ((b:Int):Rat)) + evl x r:=rfl
  have s:stc ((⟨k,ts,b⟩,c) :: r)=((isM k && decide (0 < c)) || stc r):=by rw [← nE (p:=(⟨k,ts,b⟩,c)),← ol];rfl
  have ge:((b:Int):Rat)≤sumR x ts:=by
   cases k with
   | least=>exact h1
   | more=>exact Rat.le_of_lt h1
  have m1:0≤((c:Int):Rat) * (sumR x ts - ((b:Int):Rat)):=Rat.mul_nonneg h2 (by grind)
  rw [e,s]
  refine⟨by grind,fun hs=>?_⟩
  rcases Bool.or_eq_true_iff.mp hs with z | z
  ·obtain ⟨z1,z2⟩:=Dh.mp z
   have c0:=fT (of_decide_eq_true z2)
   cases k with
   | least=>cases z1
   | more =>
    have h1:((b:Int):Rat) < sumR x ts:=h1
    have:=Rat.mul_pos c0 (show 0 < sumR x ts - ((b:Int):Rat) by grind)
    grind
  ·have:=i2 z
   grind
theorem qI {nm:List Str} {rows:List Rw} {w:List Int} {x:Str→Rat} (H:Rws nm rows) (S:mi rows w) (h:∀ r∈rows,soR x r):False:=by
 have e:=pJ (x:=x) H.nd (l:=rows.zip w) fun p hp=>H.sub _ (Di hp).1
 rw [eB fun n _=>S.no n] at e
 obtain ⟨i1,i2⟩:=wB (x:=x) (l:=rows.zip w) fun p hp=>⟨h _ (Di hp).1,S.wt.nn _ (Di hp).2⟩
 rcases S.bd with z | ⟨z,z2⟩
 ·have:=fT z
  grind
 ·have:=i2 z2
  rw [e,z] at this
  have:(0:Rat) < 0 - ((0:Int):Rat):=this
  rw [show ((0:Int):Rat)=0 from rfl] at this
  grind
def isPt:D→Bool
 | .tup [.str w,_]=>decide (w="point")
 | _=>false
def sndD:D→D
 | .tup [_,d]=>d
 | d=>d
def prs (A B:List (List Rw)):List (List Rw):=A.flatMap fun c=>B.map fun d=>c++d
def bth (nm:List Str) (A B:List (List Rw)):D:=match (prs A B).find? (fun rows=>isPt (slv nm rows nm)) with
 | some rows=>slv nm rows nm
 | none=>.tup [.str "paper",.tup (A.map fun c=>.tup (B.map fun d=>sndD (slv nm (c++d) nm)))]
structure Two (a b:Say) (nm:List Str) (B N:Nat):Prop where
 da:a.dep≤50
 db:b.dep≤50
 oa:a.ok nm
 ob:b.ok nm
 ta:a.bt B
 tb:b.bt B
 na:(a.pl false).num≤4∧(a.pl false).long≤3
 nb:(b.pl false).num≤4∧(b.pl false).long≤3
 pw:nm.Pairwise leS
 nd:nm.Nodup
 mem:∀ n,n∈nm↔n∈a.nms∨n∈b.nms
 len:nm.length≤N
 n4:N≤4
 wN:wb B 6 (N + 1)≤7990
 fq:fitQ (cb B 6) nm.length 1 1 0=true∨∀ x,¬ (a.sx x∧b.sx x)
theorem um {nm:List Str} (pw:nm.Pairwise leS) (nd:nm.Nodup) {ts:List (Str×Int)} (h:jE nm ts):e8 (cf ts) ts:=by
 have n1:=nd.sublist h.sub
 exact⟨pw.sublist h.sub,n1,fun t ht=>⟨(mn n1 ht).symm,h.nz t ht⟩,fun n hn=>CS fun z=>hn (jl z)⟩
theorem Two.row {a b:Say} {nm:List Str} {B N:Nat} (T:Two a b nm B N) {c d:List Rw} (hc:c∈(a.pl false).kr) (hd:d∈(b.pl false).kr):∀ r∈c++d,jE nm r.2.1∧(∀ t∈r.2.1,ib t.2≤B)∧ib r.2.2≤B:=fun r hr=>by
 rcases CV.mp hr with hr | hr
 ·obtain ⟨h1,h2,h3,_⟩:=Say.kr_row (Say.pl_ok T.oa) (Say.pl_bt T.ta) c hc r hr
  exact⟨h1,h2,h3⟩
 ·obtain ⟨h1,h2,h3,_⟩:=Say.kr_row (Say.pl_ok T.ob) (Say.pl_bt T.tb) d hd r hr
  exact⟨h1,h2,h3⟩
theorem Two.lens {a b:Say} {nm:List Str} {B N:Nat} (T:Two a b nm B N) {c d:List Rw} (hc:c∈(a.pl false).kr) (hd:d∈(b.pl false).kr):c.length≤3∧d.length≤3:=by
 have h1:=Say.kr_long Say.pl_pn hc
 have h2:=Say.kr_long Say.pl_pn hd
 have:=T.na.2
 have:=T.nb.2
 exact⟨by omega,by omega⟩
theorem Two.fit {a b:Say} {nm:List Str} {B N:Nat} (T:Two a b nm B N) {c d:List Rw} (hc:c∈(a.pl false).kr) (hd:d∈(b.pl false).kr):Fit nm (c++d) B N∧(fitQ (cb B 6) nm.length 1 1 0=true∨None (c++d)):=by
 have hr:=T.row hc hd
 obtain ⟨l1,l2⟩:=T.lens hc hd
 have:=T.len
 have:=T.n4
 refine⟨⟨⟨T.pw,T.nd,fun r h=>um T.pw T.nd (hr r h).1,fun r h t ht=>(hr r h).1.sub.subset (CM.mpr ⟨t,ht,rfl⟩)⟩,⟨fun r h=>(hr r h).2.1,fun r h=>(hr r h).2.2⟩,by rw [CW];omega,by omega,T.n4,T.wN⟩,?_⟩
 rcases T.fq with h | h
 ·exact .inl h
 ·refine .inr fun x=>CS fun z=>h x ?_
  have all:∀ r∈c++d,soR x r:=fun r hr=>CS fun y=>z ⟨r,hr,y⟩
  have e1:(a.pl false).sx x:=(Say.kr_sx Say.pl_pn).mpr ⟨c,hc,fun r hr=>all r (CU _ hr)⟩
  have e2:(b.pl false).sx x:=(Say.kr_sx Say.pl_pn).mpr ⟨d,hd,fun r hr=>all r (CT _ hr)⟩
  rw [Say.pl_sx] at e1 e2
  exact⟨by simpa using e1,by simpa using e2⟩
theorem Two.or {a b:Say} {nm:List Str} {B N:Nat} (T:Two a b nm B N) {c d:List Rw} (hc:c∈(a.pl false).kr) (hd:d∈(b.pl false).kr) :
  (∃ w,slv nm (c++d) nm=.tup [.str "weights",.tup (w.map D.int)]∧mi (c++d) w∧∀ z∈w,ib z≤wb B 6 nm.length)∨∃ ps,slv nm (c++d) nm=.tup [.str "point",.fd nm (ps.map frD)]∧Meets nm (c++d) ps :=
 zG (T.fit hc hd).1 T.len T.nd (fun _ h=>h) (T.fit hc hd).2
theorem kN {A B:List (List Rw)} {r:List Rw}:r∈prs A B↔∃ c∈A,∃ d∈B,r=c++d:=by
 unfold prs
 rw [List.mem_flatMap]
 constructor
 ·rintro ⟨c,hc,h⟩
  obtain ⟨d,hd,rfl⟩:=CM.mp h
  exact⟨c,hc,d,hd,rfl⟩
 ·rintro ⟨c,hc,d,hd,rfl⟩
  exact⟨c,hc,CM.mpr ⟨d,hd,rfl⟩⟩
def wOf (nm:List Str) (rows:List Rw):List Int:=match (stW rows nm).find? (fun w=>!so0 (rows.zip w)) with
 | some w=>w
 | none=>[]
theorem wJ {a b:Say} {nm:List Str} {B N:Nat} (T:Two a b nm B N) :
  (∃ ps,bth nm (a.pl false).kr (b.pl false).kr=.tup [.str "point",.fd nm (ps.map frD)]∧Pt nm ps 1000000∧ib (bot (pB nm ps) nm)≤7990∧a.sx (ptR nm ps)∧b.sx (ptR nm ps)) ∨
  (bth nm (a.pl false).kr (b.pl false).kr=.tup [.str "paper",.tup ((a.pl false).kr.map fun c=>.tup ((b.pl false).kr.map fun d=>.tup ((wOf nm (c++d)).map D.int)))]∧(∀ x,¬ (a.sx x∧b.sx x))∧∀ c∈(a.pl false).kr,∀ d∈(b.pl false).kr,mi (c++d) (wOf nm (c++d))∧∀ z∈wOf nm (c++d),ib z≤wb B 6 nm.length):=by
 unfold bth
 cases e:(prs (a.pl false).kr (b.pl false).kr).find? (fun rows=>isPt (slv nm rows nm)) with
 | some rows =>
  have hm:=List.mem_of_find?_eq_some e
  have hp:isPt (slv nm rows nm)=true:=by have:=List.find?_some e;exact this
  obtain ⟨c,hc,d,hd,rfl⟩:=kN.mp hm
  rcases T.or hc hd with ⟨w,ew,_⟩ | ⟨ps,ep,M⟩
  ·rw [ew] at hp;exact absurd hp (by show ¬ decide (("weights":Str)="point")=true;decide)
  ·refine .inl ⟨ps,ep,M.P,M.κ,?_,?_⟩
   ·have:(a.pl false).sx (ptR nm ps):=(Say.kr_sx Say.pl_pn).mpr ⟨c,hc,fun r hr=>M.so r (CU _ hr)⟩
    rw [Say.pl_sx] at this
    simpa using this
   ·have:(b.pl false).sx (ptR nm ps):=(Say.kr_sx Say.pl_pn).mpr ⟨d,hd,fun r hr=>M.so r (CT _ hr)⟩
    rw [Say.pl_sx] at this
    simpa using this
 | none =>
  have hn:=List.find?_eq_none.mp e
  have all:∀ c∈(a.pl false).kr,∀ d∈(b.pl false).kr,slv nm (c++d) nm=.tup [.str "weights",.tup ((wOf nm (c++d)).map D.int)]∧mi (c++d) (wOf nm (c++d))∧∀ z∈wOf nm (c++d),ib z≤wb B 6 nm.length:=fun c hc d hd=>by
   rcases T.or hc hd with ⟨w,ew,sw,bw⟩ | ⟨ps,ep,M⟩
   ·have:wOf nm (c++d)=w:=by
     unfold slv at ew
     unfold wOf
     cases e2:(stW (c++d) nm).find? (fun w=>!so0 ((c++d).zip w)) with
     | none=>rw [e2] at ew;cases ew
     | some v =>
      rw [e2] at ew
      simp only [D.tup.injEq,List.cons.injEq,and_true,true_and] at ew
      exact iB ew
    rw [this]
    exact⟨ew,sw,bw⟩
   ·refine absurd ?_ (hn (c++d) (kN.mpr ⟨c,hc,d,hd,rfl⟩))
    rw [ep];rfl
  refine .inr ⟨?_,fun x hx=>?_,fun c hc d hd=>(all c hc d hd).2⟩
  ·simp only
   congr 4
   refine List.map_congr_left fun c hc=>?_
   congr 1
   refine List.map_congr_left fun d hd=>?_
   rw [(all c hc d hd).1];rfl
  ·have e1:(a.pl false).sx x:=by rw [Say.pl_sx];simpa using hx.1
   have e2:(b.pl false).sx x:=by rw [Say.pl_sx];simpa using hx.2
   obtain ⟨c,hc,a1⟩:=(Say.kr_sx Say.pl_pn).mp e1
   obtain ⟨d,hd,a2⟩:=(Say.kr_sx Say.pl_pn).mp e2
   exact qI (T.fit hc hd).1.H (all c hc d hd).2.1 fun r hr=>(CV.mp hr).elim (a1 r) (a2 r)
theorem uF {nm:List Str} {A B:List (List Rw)} {i j:Nat} {c d:List Rw} (hc:A[i]?=some c) (hd:B[j]?=some d) (h1:∀ c∈A.take i,∀ d∈B,isPt (slv nm (c++d) nm)=false) (h2:∀ d∈B.take j,isPt (slv nm (c++d) nm)=false) (hp:isPt (slv nm (c++d) nm)=true):bth nm A B=slv nm (c++d) nm:=by
 have e:(prs A B).find? (fun rows=>isPt (slv nm rows nm))=some (c++d):=by
  have e1:prs A B=prs (A.take i) B++((B.map fun d=>c++d)++prs (A.drop (i + 1)) B):=by
   obtain ⟨hi,e2⟩:=CY.mp hc
   conv=>lhs;rw [← List.take_append_drop i A,List.drop_eq_getElem_cons hi,e2]
   unfold prs
   rw [List.flatMap_append,List.flatMap_cons]
  have n1:(prs (A.take i) B).find? (fun rows=>isPt (slv nm rows nm))=none:=List.find?_eq_none.mpr fun r hr=>by
   obtain ⟨c',hc',d',hd',rfl⟩:=kN.mp hr
   rw [h1 c' hc' d' hd'];decide
  have n2:(B.map fun d=>c++d).find? (fun rows=>isPt (slv nm rows nm))=some (c++d):=lO (i:=j) (by rw [C0,hd];rfl) (fun y hy=>by
   rw [← List.map_take] at hy
   obtain ⟨d',hd',rfl⟩:=CM.mp hy
   exact h2 d' hd') hp
  rw [e1,List.find?_append,n1,List.find?_append,n2];rfl
 unfold bth
 rw [e]
theorem vH {nm:List Str} {A B:List (List Rw)} (h1:∀ c∈A,∀ d∈B,isPt (slv nm (c++d) nm)=false):bth nm A B=.tup [.str "paper",.tup (A.map fun c=>.tup (B.map fun d=>sndD (slv nm (c++d) nm)))]:=by
 have e:(prs A B).find? (fun rows=>isPt (slv nm rows nm))=none:=List.find?_eq_none.mpr fun r hr=>by
  obtain ⟨c',hc',d',hd',rfl⟩:=kN.mp hr
  rw [h1 c' hc' d' hd'];decide
 unfold bth
 rw [e]
theorem pS {K:List (List Rw)} {i:Nat} {d:D} (h:(K.map fun c=>D.lst (c.map rwD))[i]?=some d):∃ c,K[i]?=some c∧d=.lst (c.map rwD):=by
 rw [C0] at h
 cases e:K[i]? with
 | none=>rw [e] at h;cases h
 | some n=>rw [e] at h;exact⟨n,rfl,(Option.some.inj h).symm⟩
inductive fR (ds:List D) (R:D→Prop):Prop
 | mk (a b:Say) (nm:List Str) (B N:Nat) (hh:ds=[a.D,b.D]∧Two a b nm B N∧R (bth nm (a.pl false).kr (b.pl false).kr))
theorem km:∀ ds R,fR ds R→ds.length=2:=fun _ _ h_0=>by obtain ⟨_,_,_,_,_,e,_⟩:=h_0;rw [e];rfl
theorem bM:ax ["one","other","firsts","seconds","names","paper","first","line","second","answer"] ["one","other"] (am s_both_so):=⟨rfl,rfl,rfl,by decide +kernel,rfl,by decide +kernel,by decide +kernel⟩
theorem mS (F:Fd K mg "both_so" s_both_so ["one","other"]) (ko:Cal P w K mg base 64 "cases" ["saying"] (spD K (mG))) (cT:Cal P w K mg base 63 "names_of" ["saying"] (spD K (eG))) (kq:Cal P w K mg base 65 "solved" ["rows","names"] (spD K (kn))) (aK:mg "tuple"=none):Cal P w K mg base 66 "both_so" ["one","other"] (spD K fR):=by
 refine fn_D F bM km fun fa cdv A outer s H E ds R hr h=>?_
 have hU:=hr.units
 refine⟨_,(ad (aA 2 bM.nd (aq ko (rm hr) rfl (ac (de_v 0) af))) (ad (aA 3 bM.nd (aq ko (rm hr) rfl (ac (de_v 1) af))) (ad (aA 4 bM.nd (aq cT (rm hr) rfl (ac (aG (ac ay (ac (de_v 0) (ac (de_v 1) af)))) af))) (ad (et 5 bM.nd af) (ad (cJ PassesOwn.never rfl (de_v 2) (ap 6 bM.nd) (ad (et 7 bM.nd af) (ad (cJ PassesOwn.never rfl (de_v 3) (ap 8 bM.nd) (ad (aA 9 bM.nd (aq kq (rm hr) rfl (ac (aC aS (de_v 6) (de_v 8)) (ac (de_v 4) af)))) (ad (aR (aH (o_eq hU) (ar au (de_v 9) ae (fun _ _=>rfl)) ay (aB _)) (ag (av (de_v 9))) aD) (ag (bN 7 (ar au (de_v 9) ae (fun _ _=>rfl))))))) (ag (bN 5 (jj 7 rfl aK cB)))))) (ag (av (aG (ac ay (ac (jj 5 rfl aK cB) af)))))))))),?_⟩
 obtain ⟨a,b,nm,B,N0,rfl,T,q⟩:=h
 have n4:=T.n4
 have nl:=T.len
 refine ak fun K1 hK1=>?_
 walk_at "rd"
 refine⟨a,nm,rfl,by have:=T.da;omega,T.oa,by omega,T.na.1,T.na.2,?_⟩
 rw [wf,hK1]
 refine ak fun K2 hK2=>?_
 walk_at "rd"
 refine⟨b,nm,rfl,by have:=T.db;omega,T.ob,by omega,T.nb.1,T.nb.2,?_⟩
 rw [wf,hK2]
 refine ak fun K3 hK3=>?_
 walk_at "rd"
 refine⟨nm,.bo a b,rfl,by have:=T.da;have:=T.db;show max _ _ + 1≤60;omega,⟨T.oa,T.ob⟩,by omega,fun ss nds hms hs=>?_⟩
 have es:=zz hs nds T.pw T.nd fun n=>by rw [hms n,T.mem n];exact CV
 subst es
 rw [hK3]
 refine ak fun K4 hK4=>?_
 walk_at "rd"
 intro pa
 rw [hK4]
 have na:=T.na
 have nb:=T.nb
 have kA:(a.pl false).kr.length≤4:=by rw [Say.kr_num Say.pl_pn];omega
 have kB:(b.pl false).kr.length≤4:=by rw [Say.kr_num Say.pl_pn];omega
 have or:=fun {c d} hc hd=>T.or (c:=c) (d:=d) hc hd
 have fit:=fun {c d} hc hd=>T.fit (c:=c) (d:=d) hc hd
 have lens:=fun {c d} hc hd=>T.lens (c:=c) (d:=d) hc hd
 generalize (a.pl false).kr=A at *
 generalize (b.pl false).kr=Bk at *
 refine ak fun K5 hK5=>?_
 refine c7 fun F N hF hN=>?_
 unfold krD
 simp only [gq]
 walk_at "rd"
 refine⟨fun i δ=>∃ x y z u,δ=[.dat a.D,.dat b.D,.dat (.lst (A.map fun c=>.lst (c.map rwD))),.dat (.lst (Bk.map fun c=>.lst (c.map rwD))),.dat (.lst (ss.map D.str)),.own pa (.lst ((A.take i).map fun c=>.tup (Bk.map fun d=>sndD (slv ss (c++d) ss)))),x,y,z,u]∧∀ c∈A.take i,∀ d∈Bk,isPt (slv ss (c++d) ss)=false,⟨_,_,_,_,rfl,fun c hc=>by simp at hc⟩,?_,?_⟩
 ·rintro i d δ hd ⟨x,y,z,u,rfl,no⟩
  obtain ⟨c,hc,rfl⟩:=pS hd
  have hcm:=C1 hc
  have hil:=(CY.mp hc).1
  rw [hF]
  show gU _ _ _ _
  refine cD fun K6 hK6=>?_
  walk_at "rd"
  intro la
  rw [hK6]
  refine ak fun K7 hK7=>?_
  refine c7 fun F2 N2 hF2 hN2=>?_
  simp only [gq]
  walk_at "rd"
  refine⟨fun j δ=>∃ z u,δ=[.dat a.D,.dat b.D,.dat (.lst (A.map fun c=>.lst (c.map rwD))),.dat (.lst (Bk.map fun c=>.lst (c.map rwD))),.dat (.lst (ss.map D.str)),.own pa (.lst ((A.take i).map fun c=>.tup (Bk.map fun d=>sndD (slv ss (c++d) ss)))),.dat (.lst (c.map rwD)),.own la (.lst ((Bk.take j).map fun d=>sndD (slv ss (c++d) ss))),z,u]∧∀ d∈Bk.take j,isPt (slv ss (c++d) ss)=false,⟨_,_,rfl,fun c hc=>by simp at hc⟩,?_,?_⟩
  ·rintro j e δ he ⟨z,u,rfl,no2⟩
   obtain ⟨d,hd,rfl⟩:=pS he
   have hdm:=C1 hd
   have hjl:=(CY.mp hd).1
   obtain ⟨l1,l2⟩:=lens hcm hdm
   obtain ⟨ft,fq⟩:=fit hcm hdm
   rw [hF2]
   show gU _ _ _ _
   refine cD fun K8 hK8=>?_
   walk_at "rd"
   rw [← C3]
   refine⟨by simp only [CK];omega,ss,c++d,B,N0,ss,rfl,ft,nl,T.nd,fun _ h=>h,fq,?_⟩
   rw [hK8]
   have pf:=fun hp=>uF (nm:=ss) hc hd no no2 hp
   rcases or hcm hdm with ⟨w,ew,_,_⟩ | ⟨ps,ep,M⟩
   ·have n1:isPt (slv ss (c++d) ss)=false:=by rw [ew];show decide (("weights":Str)="point")=false;decide
    have e1:(Bk.take (j + 1)).map (fun d=>sndD (slv ss (c++d) ss))=(Bk.take j).map (fun d=>sndD (slv ss (c++d) ss))++[.tup (w.map D.int)]:=by
     rw [aF hd,C3,List.map_singleton,ew];rfl
    simp only [e1]
    rw [ew]
    walk_at "rd"
    refine ifn (by decide) ⟨by rw [CK,De];omega,fun d' hd'=>?_⟩
    rw [aF hd] at hd'
    rcases CV.mp hd' with z | z
    ·exact no2 d' z
    ·rw [C2.mp z];exact n1
   ·have p1:isPt (slv ss (c++d) ss)=true:=by rw [ep];rfl
    rw [pf p1] at q
    rw [ep] at q ⊢
    walk_at "rd"
    exact q
  ·rintro δ ⟨z,u,rfl,no2⟩
   rw [CK,C4] at no2 ⊢
   rw [hN2,hK7]
   walk_at "rd"
   refine⟨by rw [CK,De];omega,by rw [aF hc,C3];rfl,fun c' hc' d' hd'=>?_⟩
   rw [aF hc] at hc'
   rcases CV.mp hc' with z | z
   ·exact no c' z d' hd'
   ·rw [C2.mp z];exact no2 d' hd'
 ·rintro δ ⟨x,y,z,u,rfl,no⟩
  rw [CK,C4] at no ⊢
  rw [vH no] at q
  rw [hN,hK5]
  walk_at "rd"
  exact q
theorem cnz {i j:Int} (h:j≠0):CNz i j:=h
theorem uE {i j:Int} (h0:j≠0) (h:j.natAbs.log2 < 9000):CFd i j:=⟨h0,h⟩
inductive eg (ds:List D) (R:D→Prop):Prop
 | mk (i:Int) (hh:ds=[.int i]∧R (.bl true))
theorem gZ:∀ ds R,eg ds R→ds.length=1:=fun _ _ h_0=>by obtain ⟨_,e,_⟩:=h_0;rw [e];rfl
theorem kC:ax ["_law_found"] ["_law_found"] (am s__law_whole):=⟨rfl,rfl,rfl,by decide +kernel,rfl,by decide +kernel,by decide +kernel⟩
theorem jJ (F:Fd K mg "_law_whole" s__law_whole ["_law_found"]) (aQ:mg "isinstance"=none) (sJ:mg "bool"=none) (qf:mg "int"=none):Cal P w K mg base 1 "_law_whole" ["_law_found"] (spD K eg):=by
 refine fn_D F kC gZ fun fa cdv A outer s H E ds R hr h=>?_
 have hU:=hr.units
 refine⟨_,(ag (av (gS (me Bj rfl aQ rfl qf AX (de_v 0)) (cZ (l6 (me wO rfl aQ rfl sJ Am (de_v 0))))))),?_⟩
 obtain ⟨i,rfl,q⟩:=h
 walk_at "rd"
 exact q
inductive eZ (ds:List D) (R:D→Prop):Prop
 | mk (a b c d:Int) (hh:ds=[.tup [.int a,.int b],.tup [.int c,.int d]]∧IntMulOk a d∧IntMulOk c b∧R (.int (a * d - c * b)))
theorem jo:∀ ds R,eZ ds R→ds.length=2:=fun _ _ h_0=>by obtain ⟨_,_,_,_,e,_⟩:=h_0;rw [e];rfl
theorem lg:ax ["_law_one","_law_other"] ["_law_one","_law_other"] (am s__law_over):=⟨rfl,rfl,rfl,by decide +kernel,rfl,by decide +kernel,by decide +kernel⟩
theorem kf (F:Fd K mg "_law_over" s__law_over ["_law_one","_law_other"]):Cal P w K mg base 1 "_law_over" ["_law_one","_law_other"] (spD K eZ):=by
 refine fn_D F lg jo fun fa cdv A outer s H E ds R hr h=>?_
 have hU:=hr.units
 refine⟨_,(ag (av (aC jD (aC bF (ar au (de_v 0) ae (fun _ _=>rfl)) (ar au (de_v 1) ae (fun _ _=>rfl))) (aC bF (ar au (de_v 1) ae (fun _ _=>rfl)) (ar au (de_v 0) ae (fun _ _=>rfl)))))),?_⟩
 obtain ⟨a,b,c,d,rfl,h1,h2,q⟩:=h
 walk_at "rd"
 exact⟨h1,h2,q⟩
structure Pk (ks:List Str) (ps:List (Int×Int)):Prop where
 P:Pt ks ps 3000000
 κ:ib (bot (pB ks ps) ks)≤20000
inductive eC (ds:List D) (R:D→Prop):Prop
  | mk (ts:List (Str×Int)) (ks:List Str) (ps:List (Int×Int)) (hh:ds=[.tup (ts.map tmD),.fd ks (ps.map frD)]∧(ts.map (·.1)).Nodup∧ts.length≤60∧(∀ t∈ts,t.1∈ks∧ib t.2≤10000)∧Pk ks ps ∧
  (ib (bot (pB ks ps) (ts.map (·.1)))≤20000→ib (sumT (ov (pT ks ps) (pB ks ps) (bot (pB ks ps) (ts.map (·.1)))) ts)≤3100000→0 < bot (pB ks ps) (ts.map (·.1)) →
  R (.tup [.int (sumT (ov (pT ks ps) (pB ks ps) (bot (pB ks ps) (ts.map (·.1)))) ts),.int (bot (pB ks ps) (ts.map (·.1)))])))
theorem h7:∀ ds R,eC ds R→ds.length=2:=fun _ _ h_0=>by obtain ⟨_,_,_,e,_⟩:=h_0;rw [e];rfl
theorem be:ax ["_law_terms","_law_point","_law_top","_law_low","_law_name","_law_weight","_law_value"] ["_law_terms","_law_point"] (am s__law_total):=⟨rfl,rfl,rfl,by decide +kernel,rfl,by decide +kernel,by decide +kernel⟩
theorem jz (F:Fd K mg "_law_total" s__law_total ["_law_terms","_law_point"]):Cal P w K mg base 1 "_law_total" ["_law_terms","_law_point"] (spD K eC):=by
 refine fn_D F be h7 fun fa cdv A outer s H E ds R hr h=>?_
 have hU:=hr.units
 refine⟨_,(ad (aA 2 be.nd ae) (ad (aA 3 be.nd ae) (ad (gB PassesOwn.never rfl (de_v 0) (bY (n:=2) rfl (aw (ap 4 be.nd) (aw (ap 5 be.nd) aZ))) (ad (aA 6 be.nd (dN hU (de_v 1) (de_v 4) (fun _ _=>rfl))) (ad (aA 2 be.nd (aC aS (aC bF (de_v 2) (ar au (de_v 6) ae (fun _ _=>rfl))) (aC bF (aC bF (de_v 5) (ar au (de_v 6) ae (fun _ _=>rfl))) (de_v 3)))) (ag (aA 3 be.nd (aC bF (de_v 3) (ar au (de_v 6) ae (fun _ _=>rfl)))))))) (ag (av (aG (ac (de_v 2) (ac (de_v 3) af)))))))),?_⟩
 obtain ⟨ts,ks,ps,rfl,nd,hl,ht,⟨P,hκ⟩,q⟩:=h
 walk_at "rd"
 simp only [n9]
 walk_at "rd"
 have tk:∀ i,∀ t∈ts.take i,t∈ts:=fun i t h=>Dd h
 have tb:∀ i,ib (bot (pB ks ps) ((ts.take i).map (·.1)))≤20000:=fun i=>lm (nd.sublist ((List.take_sublist i ts).map _)) (fun n hn=>by
  obtain ⟨t,h1,rfl⟩:=CM.mp hn
  exact (ht t (tk i t h1)).1) (fun n hn=>P.pos hn) hκ
 have ts':∀ i,ib (sumT (ov (pT ks ps) (pB ks ps) (bot (pB ks ps) ((ts.take i).map (·.1)))) (ts.take i))≤3100000:=fun i =>
  CN (gO (c:=10000) (m:=3020000) fun t h1=>⟨(ht t (tk i t h1)).2,intBits_mul_le (P.Tb (ht t (tk i t h1)).1) (intBits_fdiv_le (tb i))⟩) (by rw [De];omega)
 refine⟨fun i δ=>∃ x y z,δ=[.dat (.tup (ts.map tmD)),.dat (.fd ks (ps.map frD)),.dat (.int (sumT (ov (pT ks ps) (pB ks ps) (bot (pB ks ps) ((ts.take i).map (·.1)))) (ts.take i))),.dat (.int (bot (pB ks ps) ((ts.take i).map (·.1)))),x,y,z],⟨_,_,_,rfl⟩,?_,?_⟩
 ·rintro i d δ hd ⟨x,y,z,rfl⟩
  obtain ⟨t,hn,rfl⟩:=dG hd
  have htm:=C1 hn
  have hk:=(ht t htm).1
  walk_at "rd"
  refine⟨_,P.D hk,?_⟩
  walk_at "rd"
  refine⟨mo2 (ts' i) (P.Bb hk),mo2 (ht t htm).2 (P.Tb hk),mo2 (intBits_mul_le (ht t htm).2 (P.Tb hk)) (tb i),mo2 (tb i) (P.Bb hk),?_⟩
  rw [aF hn,C3,gI,List.map_singleton,my]
  refine⟨vL (fun w hw=>⟨?_,dY (CM.mpr ⟨w,hw,rfl⟩)⟩) ?_,rfl⟩
  ·have:=P.pos (ht w (tk i w hw)).1;omega
  ·have:=P.pos hk;omega
 ·rintro δ ⟨x,y,z,rfl⟩
  have e1:ts.take (ts.map tmD).length=ts:=by rw [CK,C4]
  have b1:=tb (ts.map tmD).length
  have b2:=ts' (ts.map tmD).length
  rw [e1] at b1 b2 ⊢
  walk_at "rd"
  exact q b1 b2 (cV fun n hn=>by
   obtain ⟨t,h1,rfl⟩:=CM.mp hn
   exact P.pos (ht t h1).1)
inductive dI (ds:List D) (R:D→Prop):Prop
 | mk (r:Rw) (ks:List Str) (ps:List (Int×Int)) (hh:ds=[rwD r,.fd ks (ps.map frD)]∧(r.2.1.map (·.1)).Nodup∧r.2.1.length≤60∧ib r.2.2≤10000∧(∀ t∈r.2.1,t.1∈ks∧ib t.2≤10000)∧Pk ks ps∧R (.bl (qp (pT ks ps) (pB ks ps) r.1 r.2.1 r.2.2)))
theorem gu:∀ ds R,dI ds R→ds.length=2:=fun _ _ h_0=>by obtain ⟨_,_,_,e,_⟩:=h_0;rw [e];rfl
theorem eT:ax ["_law_row","_law_point","_law_found"] ["_law_row","_law_point"] (am s__law_row_so):=⟨rfl,rfl,rfl,by decide +kernel,rfl,by decide +kernel,by decide +kernel⟩
theorem i6 (F:Fd K mg "_law_row_so" s__law_row_so ["_law_row","_law_point"]) (e6:Cal P w K mg base 1 "_law_over" ["_law_one","_law_other"] (spD K (eZ))) (d8:Cal P w K mg base 1 "_law_total" ["_law_terms","_law_point"] (spD K (eC))):Cal P w K mg base 2 "_law_row_so" ["_law_row","_law_point"] (spD K dI):=by
 refine fn_D F eT gu fun fa cdv A outer s H E ds R hr h=>?_
 have hU:=hr.units
 refine⟨_,(ad (aA 2 eT.nd (aq e6 (rm hr) rfl (ac (aq d8 (rm hr) rfl (ac (ar au (de_v 0) ae (fun _ _=>rfl)) (ac (de_v 1) af))) (ac (aG (ac (ar au (de_v 0) ae (fun _ _=>rfl)) (ac ae af))) af)))) (ag (av (qq (cN o_gt (de_v 2) ae (aB _)) (cZ (gS (cN (o_eq hU) (de_v 2) ae (aB _)) (cZ (cN (o_eq hU) (ar au (de_v 0) ae (fun _ _=>rfl)) ay (aB _))))))))),?_⟩
 obtain ⟨⟨k,ts,b⟩,ks,ps,rfl,nd,hl,bb,ht,Pk,q⟩:=h
 unfold rwD rowD
 walk_at "rd"
 refine⟨ts,ks,ps,rfl,nd,hl,ht,Pk,fun b1 b2 bp=>?_⟩
 walk_at "rd"
 refine⟨_,_,_,_,rfl,IntMulOk.of_right (by decide),mo2 bb b1,?_⟩
 walk_at "rd"
 have q:R (.bl (mI k (sumT (ov (pT ks ps) (pB ks ps) (bot (pB ks ps) (ts.map (·.1)))) ts) (b * bot (pB ks ps) (ts.map (·.1))))):=q
 generalize sumT (ov (pT ks ps) (pB ks ps) (bot (pB ks ps) (ts.map (·.1)))) ts=T at *
 generalize bot (pB ks ps) (ts.map (·.1))=B at *
 generalize b * B=C at *
 rw [Int.mul_one]
 refine ite2 (fun h1=>?_) fun h1=>ite2 (fun h2=>?_) fun h2=>?_
 ·cases k with
  | least=>have q:R (.bl (decide (C≤T))):=q;rw [decide_eq_true (by omega)] at q;exact q
  | more=>have q:R (.bl (decide (C < T))):=q;rw [decide_eq_true (by omega)] at q;exact q
 ·cases k with
  | least=>have q:R (.bl (decide (C≤T))):=q;rw [decide_eq_true (by omega)] at q;exact q
  | more=>have q:R (.bl (decide (C < T))):=q;rw [decide_eq_false (by omega)] at q;exact q
 ·cases k with
  | least=>have q:R (.bl (decide (C≤T))):=q;rw [decide_eq_false (by omega)] at q;exact q
  | more=>have q:R (.bl (decide (C < T))):=q;rw [decide_eq_false (by omega)] at q;exact q
theorem lg64 {x:Int} (h0:0 < x) (h1:x < 64):x.natAbs.log2 < 9000:=by
 refine Nat.lt_of_lt_of_le ((Nat.log2_lt (by omega)).mpr (show x.natAbs < 2 ^ 6 by omega)) (by decide)
def numL (c:Int):Int:=if c.fmod 5=0 then 0 else if c.fmod 5 < 4 then (c.fdiv 5).fmod 7 - 3 else (c.fdiv 5).fmod (2 * 1000000000 + 1) - 1000000000
theorem gm (c:Int):ib (numL c)≤30:=by
 have bb:∀ {x:Int},-1000000000≤x→x≤1000000000→ib x≤30:=fun h0 h1=>intBits_le_iff.mpr (by rw [show (2:Nat) ^ 30=1073741824 by decide +kernel];omega)
 have a0:=Int.fmod_nonneg_of_pos (c.fdiv 5) (b:=7) (by decide)
 have a1:=Int.fmod_lt_of_pos (c.fdiv 5) (b:=7) (by decide)
 have a2:=Int.fmod_nonneg_of_pos (c.fdiv 5) (b:=2 * 1000000000 + 1) (by decide)
 have a3:=Int.fmod_lt_of_pos (c.fdiv 5) (b:=2 * 1000000000 + 1) (by decide)
 unfold numL
 by_cases h1:c.fmod 5=0
 ·rw [if_pos h1];decide
 ·rw [if_neg h1]
  by_cases h2:c.fmod 5 < 4
  ·rw [if_pos h2];exact bb (by omega) (by omega)
  ·rw [if_neg h2];exact bb (by omega) (by omega)
inductive cO (ds:List D) (R:D→Prop):Prop
 | mk (c:_) (hh:ds=[.int c]∧ib c≤1048600∧R (.int (numL c)))
theorem gv:∀ ds R,cO ds R→ds.length=1:=fun _ _ h_0=>by obtain ⟨_,e,_⟩:=h_0;rw [e];rfl
theorem dw:ax ["_law_cell_here","_law_kind"] ["_law_cell_here"] (am s__law_number):=⟨rfl,rfl,rfl,by decide +kernel,rfl,by decide +kernel,by decide +kernel⟩
theorem iQ (F:Fd K mg "_law_number" s__law_number ["_law_cell_here"]):Cal P w K mg base 1 "_law_number" ["_law_cell_here"] (spD K cO):=by
 refine fn_D F dw gv fun fa cdv A outer s H E ds R hr h=>?_
 have hU:=hr.units
 refine⟨_,(ad (aA 1 dw.nd (aC gN (de_v 0) ae)) (ad (aA 0 dw.nd (aC eW (de_v 0) ae)) (ad (aR (aH (o_eq hU) (de_v 1) ae (aB _)) (ag (av ae)) aD) (ad (aR (aH o_lt (de_v 1) ae (aB _)) (ag (av (aC jD (aC gN (de_v 0) ae) ae))) aD) (ag (av (aC jD (aC gN (de_v 0) (aC aS (aC bF ae (aC xl ae ae)) ae)) (aC xl ae ae)))))))),?_⟩
 obtain ⟨c,rfl,hc,q⟩:=h
 walk_at "rd"
 have e9:(10:Int) ^ Int.toNat 9=1000000000:=by decide +kernel
 rw [e9]
 unfold numL at q
 refine⟨cnz (by decide),uE (by decide) (by decide +kernel),ite2 (fun h1=>?_) fun h1=>ite2 (fun h2=>⟨cnz (by decide),?_⟩) fun h2=>⟨⟨by decide,by decide,by decide⟩,IntMulOk.of_left (by decide),cnz (by decide),⟨by decide,by decide,by decide⟩,?_⟩⟩
 ·rw [if_pos h1] at q;exact q
 ·rw [if_neg h1,if_pos h2] at q;exact q
 ·rw [if_neg h1,if_neg h2] at q;exact q
theorem atL {α β:Type} {f:α→β} {xs:List α} {k:Nat} (h:k < xs.length):atI (xs.map f) (k:Int)=some (f xs[k]):=by
 rw [vZ (by omega) (by rw [CK];omega),C0,Int.toNat_natCast,Dk h]
 rfl
theorem v9:∀ ts:List (Str×Int),D.ims (ts.map tmD)=true
 | []=>rfl
 | t :: ts=>by rw [List.map_cons];simp only [D.ims,v9 ts];rfl
theorem B1 (r:Rw):D.im (rwD r)=true:=by
 unfold rwD rowD
 simp only [D.im,D.ims,v9];rfl
def S4:List Str:=["a","b","c","d"]
theorem Be:S4.Nodup:=by decide +kernel
theorem Ao:S4.Pairwise leS:=by unfold S4 leS;decide +kernel
structure Rg (r:Rw):Prop where
 tm:jE S4 r.2.1
 tb:∀ t∈r.2.1,ib t.2≤34
 bb:ib r.2.2≤34
structure Sg (s:Say):Prop where
 dep:s.dep≤10
 ok:s.ok S4
 bt:s.bt 34
 few:(s.pl false).num≤4∧(s.pl false).long≤3
inductive fN (ds:List D) (R:D→Prop):Prop
 | mk (cs:List Int) (nms:List Str) (hh:ds=[.lst (cs.map D.int),.lst (nms.map D.str)]∧∃ h5:cs.length=5,(∀ c∈cs,ib c≤1048600)∧nms.length=3∧nms.Sublist S4∧∀ r:Rw,Rg r→R (rwD r))
theorem ja:∀ ds R,fN ds R→ds.length=2:=fun _ _ h_0=>by obtain ⟨_,_,e,_⟩:=h_0;rw [e];rfl
theorem dk:ax ["_law_cells","_law_names_here","_law_terms","_law_k","_law_weight"] ["_law_cells","_law_names_here"] (am s__law_line):=⟨rfl,rfl,rfl,by decide +kernel,rfl,by decide +kernel,by decide +kernel⟩
theorem j8 (F:Fd K mg "_law_line" s__law_line ["_law_cells","_law_names_here"]) (bD:Cal P w K mg base 1 "_law_number" ["_law_cell_here"] (spD K (cO))) (cH:mg "range"=none) (aK:mg "tuple"=none):Cal P w K mg base 2 "_law_line" ["_law_cells","_law_names_here"] (spD K fN):=by
 refine fn_D F dk ja fun fa cdv A outer s H E ds R hr h=>?_
 have hU:=hr.units
 refine⟨_,(ad (et 2 dk.nd af) (ad (nr PassesOwn.never rfl rfl cH (ac ae af) (ap 3 dk.nd) (ad (aA 4 dk.nd (aq bD (rm hr) rfl (ac (ar au (de_v 0) (aC aS ae (de_v 3)) (fun _ _=>rfl)) af))) (ag (aR (aH (jG hU) (de_v 4) ae (aB _)) (ag (bN 2 (aG (ac (ar au (de_v 1) (de_v 3) (fun _ _=>rfl)) (ac (de_v 4) af))))) aD)))) (ag (av (aG (ac (ar au (b6 (ac ay (ac ay af))) (aC gN (ar au (de_v 0) ae (fun _ _=>rfl)) ae) (fun _ _=>rfl)) (ac (jj 2 rfl aK cB) (ac (aq bD (rm hr) rfl (ac (ar au (de_v 0) ae (fun _ _=>rfl)) af)) af)))))))),?_⟩
 obtain ⟨cs,nms,rfl,hl,hb,n3,hS,q⟩:=h
 have ca:∀ k:Nat,(h:k < 5)→atI (cs.map D.int) (k:Int)=some (.int (cs[k]'(by omega))):=fun k h=>atL (by omega)
 have cb:∀ k:Nat,(h:k < 5)→ib (cs[k]'(by omega))≤1048600:=fun k h=>hb _ (Dj _)
 refine ak fun K2 hK2=>?_
 walk_at "rd"
 intro ta
 rw [hK2]
 refine ak fun K3 hK3=>?_
 simp only [xB]
 walk_at "rd"
 refine⟨by decide,by decide,fun i δ=>∃ ts x y,δ=[.dat (.lst (cs.map D.int)),.dat (.lst (nms.map D.str)),.own ta (.lst (ts.map tmD)),x,y]∧(ts.map (·.1)).Sublist (nms.take i)∧(∀ t∈ts,t.2≠0∧ib t.2≤30),⟨[],_,_,rfl,by simp,fun _ h=>(nomatch h)⟩,?_,?_⟩
 ·rintro i δ hi ⟨ts,x,y,rfl,hsb,hts⟩
  have hi:i < 3:=hi
  have hlt:ts.length≤i:=by
   have:=hsb.length_le
   rw [CK,De] at this
   omega
  have hni:nms[i]?=some (nms[i]'(by omega)):=Dk (by omega)
  walk_at "rd"
  refine⟨_,(by rw [show (1:Int) + (i:Int)=((i + 1:Nat):Int) by omega];exact ca (i + 1) (by omega)),_,rfl,cb (i + 1) (by omega),?_⟩
  have br:=gm (cs[i + 1]'(by omega))
  generalize numL (cs[i + 1]'(by omega))=r at br ⊢
  walk_at "rd"
  refine ite2 (fun hz=>?_) fun hz=>?_
  ·refine⟨_,atL (by omega),?_⟩
   refine⟨by rw [CK];omega,ts++[(nms[i]'(by omega),r)],by rw [C3];rfl,?_,fun t ht=>?_⟩
   ·rw [aF hni,C3]
    exact hsb.append (List.Sublist.refl _)
   ·rcases CV.mp ht with ht | ht
    ·exact hts t ht
    ·rw [C2.mp ht];exact⟨hz,br⟩
  ·exact⟨ts,rfl,by rw [aF hni];exact hsb.trans (List.sublist_append_left ..),hts⟩
 ·rintro δ ⟨ts,x,y,rfl,hsb,hts⟩
  have hsb:(ts.map (·.1)).Sublist (nms.take 3):=hsb
  rw [List.take_of_length_le (by omega)] at hsb
  have hlt:ts.length≤3:=by
   have:=hsb.length_le
   rw [CK] at this
   omega
  rw [hK3]
  walk_at "rd"
  refine⟨_,ca 0 (by decide),?_⟩
  walk_at "rd"
  have m0:=Int.fmod_nonneg_of_pos (cs[0]'(by omega)) (b:=2) (by decide)
  have m1:=Int.fmod_lt_of_pos (cs[0]'(by omega)) (b:=2) (by decide)
  have h2:(cs[0]'(by omega)).fmod 2=0∨(cs[0]'(by omega)).fmod 2=1:=by omega
  have fin:∀ k r,ib r≤30→R (rwD (k,ts,r)):=fun k r br=>q (k,ts,r) ⟨⟨hsb.trans hS,fun t h=>(hts t h).1,fun t h=>CN (hts t h).2 (by decide)⟩,fun t h=>CN (hts t h).2 (by decide),CN br (by decide)⟩
  refine⟨cnz (by decide),?_⟩
  rcases h2 with h2 | h2<;>rw [h2]
  ·refine⟨_,at0,?_⟩
   exact⟨_,ca 4 (by decide),_,rfl,cb 4 (by decide),fin .least _ (gm _)⟩
  ·refine⟨_,at1,?_⟩
   exact⟨_,ca 4 (by decide),_,rfl,cb 4 (by decide),fin .more _ (gm _)⟩
inductive er (ds:List D) (R:D→Prop):Prop
 | mk (cs fs:List Int) (sd:Int) (hh:ds=[.lst (cs.map D.int),.lst (fs.map D.int),.int sd]∧cs.length=5∧fs.length=3∧(∀ f∈fs,ib f≤30)∧(sd=0∨sd=1)∧∀ r:Rw,Rg r→R (rwD r))
theorem hX:∀ ds R,er ds R→ds.length=3:=fun _ _ h_0=>by obtain ⟨_,_,_,e,_⟩:=h_0;rw [e];rfl
theorem bO:ax ["_law_cells","_law_fence_here","_law_side","_law_often","_law_free","_law_sign","_law_sums","_law_terms"] ["_law_cells","_law_fence_here","_law_side"] (am s__law_fence):=⟨rfl,rfl,rfl,by decide +kernel,rfl,by decide +kernel,by decide +kernel⟩
theorem jx (F:Fd K mg "_law_fence" s__law_fence ["_law_cells","_law_fence_here","_law_side"]) (cQ:mg "sorted"=none) (aK:mg "tuple"=none):Cal P w K mg base 1 "_law_fence" ["_law_cells","_law_fence_here","_law_side"] (spD K er):=by
 refine fn_D F bO hX fun fa cdv A outer s H E ds R hr h=>?_
 have hU:=hr.units
 refine⟨_,(ad (aA 3 bO.nd (aC aS ae (aC gN (ar au (de_v 0) ae (fun _ _=>rfl)) ae))) (ad (aA 4 bO.nd (aC jD (aC gN (ar au (de_v 0) ae (fun _ _=>rfl)) ae) ae)) (ad (aA 5 bO.nd (aC jD ae (aC bF ae (de_v 2)))) (ad (ux 6 bO.nd (aC bF (aC bF (de_v 5) (de_v 3)) (ar au (de_v 1) ae (fun _ _=>rfl))) (aC bF (aC bF (de_v 5) (de_v 3)) (ar au (de_v 1) ae (fun _ _=>rfl)))) (ad (gC 6 hU (de_v 4) (ar au (b6 (ac ay (ac ay af))) (de_v 2) (fun _ _=>rfl))) (dA 6 (ad (eK 7 bO.nd ["_law_name"] [(6,"_law_sums")] rfl rfl (by decide +kernel) rfl (by decide +kernel) (bR ⟨rfl,trivial⟩) (bZ rfl) (bn ⟨⟨rfl,rfl,.inl rfl⟩,trivial⟩) (fP (ba (kQ rfl) rfl cQ kS (ac (de_v 6) af))) fun _ _ _ _ _=>⟨(ap 0 (show List.Nodup (["_law_name","_law_sums"]:List Str) by decide +kernel)),(gY (aH (jG hU) (dN hU (de_v 1) (de_v 0) (fun _ _=>rfl)) ae (aB _))),(aG (ac (de_v 0) (ac (dN hU (de_v 1) (de_v 0) (fun _ _=>rfl)) af)))⟩) (ag (av (aG (ac (ar au (b6 (ac ay (ac ay af))) (aC gN (ar au (de_v 0) ae (fun _ _=>rfl)) ae) (fun _ _=>rfl)) (ac (cF fe rfl aK cB (ac (de_v 7) af)) (ac (aC aS (aC jD (aC aS (aC bF (aC bF (de_v 5) (de_v 3)) (ar au (de_v 1) ae (fun _ _=>rfl))) (aC gN (ar au (de_v 0) ae (fun _ _=>rfl)) ae)) ae) (de_v 2)) af))))))))))))),?_⟩
 obtain ⟨cs,fs,sd,rfl,h5,h3,hf,hs,q⟩:=h
 have ca:∀ k:Nat,(h:k < 5)→atI (cs.map D.int) (k:Int)=some (.int (cs[k]'(by omega))):=fun k h=>atL (by omega)
 have fa:∀ k:Nat,(h:k < 3)→atI (fs.map D.int) (k:Int)=some (.int (fs[k]'(by omega))):=fun k h=>atL (by omega)
 have bd3:∀ {x y:Int} {m:Nat},ib x≤m→(y=1∨y=-1)→∀ {o:Int},1≤o→o≤3→x.natAbs≤1073741823→(y * o * x).natAbs≤3221225469:=fun {x y m} _ hy {o} o1 o3 hx=>by
  rw [Int.natAbs_mul]
  have h1:(y * o).natAbs≤3:=by rcases hy with rfl | rfl<;>omega
  exact CN (Nat.mul_le_mul h1 hx) (by decide)
 have f30:∀ k:Nat,(h:k < 3)→(fs[k]'(by omega)).natAbs≤1073741823:=fun k h=>by
  have:=intBits_le_iff.mp (hf (fs[k]'(by omega)) (Dj _))
  rw [show (2:Nat) ^ 30=1073741824 by decide +kernel] at this
  omega
 refine ak fun K1 hK1=>?_
 walk_at "rd"
 refine⟨_,ca 1 (by decide),?_⟩
 walk_at "rd"
 have o0:=Int.fmod_nonneg_of_pos (cs[1]'(by omega)) (b:=3) (by decide)
 have o1:=Int.fmod_lt_of_pos (cs[1]'(by omega)) (b:=3) (by decide)
 refine⟨cnz (by decide),?_⟩
 rw [hK1]
 generalize hof:1 + (cs[1]'(by omega)).fmod 3=of
 have of1:1≤of:=by omega
 have of3:of≤3:=by omega
 clear hof o0 o1
 refine ak fun K2 hK2=>?_
 walk_at "rd"
 refine⟨_,ca 2 (by decide),?_⟩
 walk_at "rd"
 have o0:=Int.fmod_nonneg_of_pos (cs[2]'(by omega)) (b:=5) (by decide)
 have o1:=Int.fmod_lt_of_pos (cs[2]'(by omega)) (b:=5) (by decide)
 refine⟨cnz (by decide),?_⟩
 rw [hK2]
 generalize hfr:(cs[2]'(by omega)).fmod 5 - 2=fr
 have fr1:fr.natAbs≤2:=by omega
 clear hfr o0 o1
 refine ak fun K3 hK3=>?_
 walk_at "rd"
 refine⟨IntMulOk.of_left (by decide),?_⟩
 rw [hK3]
 generalize hsg:1 - 2 * sd=sg
 have sg1:sg=1∨sg=-1:=by omega
 clear hsg
 have mu:∀ {x:Int},IntMulOk (sg * of) x:=fun {x}=>IntMulOk.of_left (by
  rcases sg1 with rfl | rfl<;>exact intBits_le_64 (by omega) (by omega))
 have msg:IntMulOk sg of:=IntMulOk.of_left (by rcases sg1 with rfl | rfl<;>decide)
 refine ak fun K4 hK4=>?_
 walk_at "rd"
 have va:=bd3 (hf (fs[0]'(by omega)) (Dj _)) sg1 of1 of3 (f30 0 (by decide))
 have vb:=bd3 (hf (fs[1]'(by omega)) (Dj _)) sg1 of1 of3 (f30 1 (by decide))
 have vc:=bd3 (hf (fs[2]'(by omega)) (Dj _)) sg1 of1 of3 (f30 2 (by decide))
 refine⟨msg,_,fa 0 (by decide),?_⟩
 walk_at "rd"
 refine⟨mu,msg,_,fa 1 (by decide),?_⟩
 walk_at "rd"
 refine⟨mu,by decide,fun sa=>?_⟩
 rw [hK4]
 generalize sg * of * fs[0]'(by omega)=v0 at *
 generalize sg * of * fs[1]'(by omega)=v1 at *
 have b34:∀ {x:Int},x.natAbs≤3300000000→ib x≤34:=fun {x} h=>intBits_le_iff.mpr (by rw [show (2:Nat) ^ 34=17179869184 by decide +kernel];omega)
 refine ak fun K5 hK5=>?_
 have key:∀ x:Str,x∈S4→x≠"b"→x≠"c"→K5 [.dat (.lst (cs.map D.int)),.dat (.lst (fs.map D.int)),.dat (.int sd),.dat (.int of),.dat (.int fr),.dat (.int sg),.own sa (.dct ["b","c",x] [.int v0,.int v1,.int fr]),.no]:=?_
 ·walk_at "rd"
  rcases hs with rfl | rfl
  ·exact⟨_,at0,"a",rfl,key "a" (by decide +kernel) (by decide) (by decide)⟩
  ·exact⟨_,at1,"d",rfl,key "d" (by decide +kernel) (by decide) (by decide)⟩
 intro x xS xb xc
 have ev:([.int v0,.int v1,.int fr]:List D)=(["b","c",x]:List Str).map fun n=>.int (if n="b" then v0 else if n="c" then v1 else fr):=by
  simp only [List.map_cons,List.map_nil,if_neg xb,if_neg xc,if_true]
  rfl
 have nd:(["b","c",x]:List Str).Nodup:=by
  simp only [List.nodup_cons,CQ,List.not_mem_nil,or_false,not_or,not_false_eq_true,List.nodup_nil,and_true]
  exact⟨⟨by decide,fun z=>xb z.symm⟩,fun z=>xc z.symm⟩
 have hs4:∀ n∈(["b","c",x]:List Str),n∈S4:=fun n hn=>by
  simp only [CQ,List.not_mem_nil,or_false] at hn
  rcases hn with rfl | rfl | rfl
  ·decide +kernel
  ·decide +kernel
  ·exact xS
 have fbt:∀ n:Str,(if n="b" then v0 else if n="c" then v1 else fr).natAbs≤3221225469:=fun n=>by
  by_cases h1:n="b"
  ·rw [if_pos h1];exact va
  ·rw [if_neg h1]
   by_cases h2:n="c"
   ·rw [if_pos h2];exact vb
   ·rw [if_neg h2];omega
 rw [ev,hK5]
 generalize (["b","c",x]:List Str)=ks at *
 generalize hFF:(fun n:Str=>if n="b" then v0 else if n="c" then v1 else fr)=FF
 have eF:∀ n,(if n=("b":Str) then v0 else if n="c" then v1 else fr)=FF n:=fun n=>by rw [← hFF]
 simp only [eF] at fbt ⊢
 clear ev eF hFF
 have k4:=hZ nd hs4
 have k4:ks.length≤4:=k4
 refine⟨sa,_,rfl,?_⟩
 refine ak fun K6 hK6=>?_
 walk_at "rd"
 refine⟨by omega,fun ss' pm st=>?_⟩
 have hl':=pm.length_eq
 refine⟨by rw [CK];omega,fun d=>match d with | .str n=>if FF n≠0 then some (.tup [.str n,.int (FF n)]) else none | _=>none,fun x hx=>?_,?_⟩
 ·obtain ⟨n,hn,rfl⟩:=CM.mp hx
  have hnk:n∈ks:=pm.mem_iff.mp hn
  walk_at "rd"
  refine⟨_,cR (fun n=>D.int (FF n)) hnk,?_⟩
  walk_at "rd"
  refine ite2 (fun hz=>?_) fun hz=>?_
  ·exact⟨_,cR (fun n=>D.int (FF n)) hnk,by rw [if_pos hz]⟩
  ·rw [if_neg hz]
 have e:(ss'.map D.str).filterMap (fun d=>match d with | .str n=>if FF n≠0 then some (D.tup [.str n,.int (FF n)]) else none | _=>none)=((ss'.filter fun n=>decide (FF n≠0)).map fun n=>(n,FF n)).map tmD:=by
  clear hl' pm st
  induction ss' with
  | nil=>rfl
  | cons n r ih =>
   rw [List.map_cons,List.filterMap_cons]
   simp only
   by_cases hz:FF n≠0
   ·rw [if_pos hz,Dc (by simpa using hz)]
    simp only [List.map_cons]
    rw [ih];rfl
   ·rw [if_neg hz,Db (by simpa using hz)]
    exact ih
 rw [e,hK6]
 have tm:jE S4 ((ss'.filter fun n=>decide (FF n≠0)).map fun n=>(n,FF n))∧∀ t∈(ss'.filter fun n=>decide (FF n≠0)).map fun n=>(n,FF n),ib t.2≤34:=by
  have en:((ss'.filter fun n=>decide (FF n≠0)).map fun n=>(n,FF n)).map (·.1)=ss'.filter fun n=>decide (FF n≠0):=by
   rw [List.map_map];exact List.map_id _
  have bb:∀ t∈(ss'.filter fun n=>decide (FF n≠0)).map fun n=>(n,FF n),ib t.2≤34:=fun t ht=>by
   obtain ⟨n,_,rfl⟩:=CM.mp ht
   exact b34 (by have:=fbt n;show (FF n).natAbs≤_;omega)
  refine⟨⟨?_,fun t ht=>?_,fun t ht=>CN (bb t ht) (by decide)⟩,bb⟩
  ·rw [en]
   exact qY ((sC st).filter _) ((pm.nodup_iff.mpr nd).filter _) Ao Be fun n hn=>hs4 n (pm.mem_iff.mp (C5.mp hn).1)
  ·obtain ⟨n,hn,rfl⟩:=CM.mp ht
   simpa using (C5.mp hn).2
 generalize (ss'.filter fun n=>decide (FF n≠0)).map (fun n=>(n,FF n))=ts at *
 walk_at "rd"
 refine⟨_,ca 0 (by decide),?_⟩
 walk_at "rd"
 have o0:=Int.fmod_nonneg_of_pos (cs[0]'(by omega)) (b:=2) (by decide)
 have o1:=Int.fmod_lt_of_pos (cs[0]'(by omega)) (b:=2) (by decide)
 have p0:=Int.fmod_nonneg_of_pos (cs[4]'(by omega)) (b:=3) (by decide)
 have p1:=Int.fmod_lt_of_pos (cs[4]'(by omega)) (b:=3) (by decide)
 have fin:∀ k,R (.tup [.str (kdS k),.tup (ts.map tmD),.int (sg * of * (fs[2]'(by omega)) + (cs[4]'(by omega)).fmod 3 - 1 + sd)]):=fun k=>q (k,ts,_) ⟨tm.1,tm.2,b34 (by show (sg * of * (fs[2]'(by omega)) + (cs[4]'(by omega)).fmod 3 - 1 + sd).natAbs≤_;omega)⟩
 refine⟨cnz (by decide),?_⟩
 have h2:(cs[0]'(by omega)).fmod 2=0∨(cs[0]'(by omega)).fmod 2=1:=by omega
 rcases h2 with h2 | h2<;>rw [h2]
 ·exact⟨_,at0,msg,_,fa 2 (by decide),_,_,rfl,mu,_,ca 4 (by decide),_,_,rfl,cnz (by decide),_,_,rfl,fin .least⟩
 ·exact⟨_,at1,msg,_,fa 2 (by decide),_,_,rfl,mu,_,ca 4 (by decide),_,_,rfl,cnz (by decide),_,_,rfl,fin .more⟩
def lf (b:Bool) (r:Rw):Say:=if b=true then .nt (sayR r) else sayR r
theorem wn (b:Bool) (r:Rw) (t:Bool):((lf b r).pl t).num=1∧((lf b r).pl t).long=1:=by
 unfold lf sayR
 cases b<;>cases t<;>exact⟨rfl,rfl⟩
theorem pe (b:Bool) (r:Rw):(lf b r).dep≤2:=by
 cases b
 ·exact (by decide:(1:Nat)≤2)
 ·exact (by decide:(2:Nat)≤2)
theorem uY {b:Bool} {r:Rw} (h:Rg r):(lf b r).ok S4:=by
 unfold lf sayR
 have:jE S4 r.2.1∧ib r.2.2≤10000:=⟨h.tm,CN h.bb (by decide)⟩
 cases b<;>exact this
theorem vy {b:Bool} {r:Rw} (h:Rg r):(lf b r).bt 34:=by
 unfold lf sayR
 cases b<;>exact⟨h.tb,h.bb⟩
inductive dP (ds:List D) (R:D→Prop):Prop
 | mk (rows:List Rw) (c:Int) (hh:ds=[.lst (rows.map rwD),.int c]∧rows.length=4∧(∀ r∈rows,Rg r)∧∀ s:Say,Sg s→R s.D)
theorem gF:∀ ds R,dP ds R→ds.length=2:=fun _ _ h_0=>by obtain ⟨_,_,e,_⟩:=h_0;rw [e];rfl
theorem lf_D (x:Int) (r:Rw):(if x=0 then rwD r else .tup [.str "not",rwD r])=(lf (decide (x≠0)) r).D:=by
 unfold lf
 by_cases h:x=0
 ·rw [if_pos h,decide_eq_false (fun z=>z h)];rfl
 ·rw [if_neg h,decide_eq_true h];rfl
theorem bP (b:Bool) (r:Rw) (t:Bool):((lf b r).pl t).num=1:=(wn b r t).1
theorem a5 (b:Bool) (r:Rw) (t:Bool):((lf b r).pl t).long=1:=(wn b r t).2
theorem CJ {x y:D} {m:Int} (h0:0≤m) (h1:m < 2):atI [x,y] m=some (if m=0 then x else y):=by
 have:m=0∨m=1:=by omega
 rcases this with rfl | rfl
 ·rw [if_pos rfl];exact at0
 ·rw [if_neg (by decide)];exact at1
theorem aP:ax ["_law_rows","_law_cell_here","_law_r","_law_s","_law_t","_law_u","_law_some"] ["_law_rows","_law_cell_here"] (am s__law_shaped):=⟨rfl,rfl,rfl,by decide +kernel,rfl,by decide +kernel,by decide +kernel⟩
theorem jd (F:Fd K mg "_law_shaped" s__law_shaped ["_law_rows","_law_cell_here"]) (cu:mg "enumerate"=none):Cal P w K mg base 1 "_law_shaped" ["_law_rows","_law_cell_here"] (spD K dP):=by
 refine fn_D F aP gF fun fa cdv A outer s H E ds R hr h=>?_
 have hU:=hr.units
 refine⟨_,(ad (sT (cy ["_law_k","_law_row"] [(1,"_law_cell_here")] rfl rfl (by decide +kernel) rfl (by decide +kernel) (bR ⟨rfl,trivial⟩) (bZ rfl) (bn ⟨⟨rfl,rfl,.inl rfl⟩,trivial⟩) (rQ rfl cu (ac (de_v 0) af)) fun _ _ _ _ _=>⟨(bY (n:=2) rfl (aw (ap 0 (show List.Nodup (["_law_k","_law_row","_law_cell_here"]:List Str) by decide +kernel)) (aw (ap 1 (show List.Nodup (["_law_k","_law_row","_law_cell_here"]:List Str) by decide +kernel)) aZ))),dQ,(ar au (b6 (ac (de_v 1) (ac (aG (ac ay (ac (de_v 1) af))) af))) (aC gN (aC eW (aC eW (de_v 2) ae) (aC Cv ae (de_v 0))) ae) (fun _ _=>rfl))⟩) (wC (n:=4) rfl (aw (ap 2 aP.nd) (aw (ap 3 aP.nd) (aw (ap 4 aP.nd) (aw (ap 5 aP.nd) aZ)))))) (ad (aA 6 aP.nd (b6 (ac (de_v 2) (ac (aG (ac ay (ac (de_v 2) (ac (de_v 3) af)))) (ac (aG (ac ay (ac (de_v 2) (ac (de_v 3) af)))) (ac (aG (ac ay (ac (de_v 2) (ac (aG (ac ay (ac (de_v 3) (ac (de_v 4) af)))) af)))) (ac (aG (ac ay (ac (aG (ac ay (ac (de_v 2) (ac (de_v 3) af)))) (ac (de_v 4) af)))) af))))))) (ad (aA 6 aP.nd (aC aS (de_v 6) (b6 (ac (aG (ac ay (ac (aG (ac ay (ac (de_v 2) (ac (de_v 3) af)))) (ac (de_v 4) af)))) (ac (aG (ac ay (ac (aG (ac ay (ac (de_v 2) (ac (de_v 3) af)))) (ac (aG (ac ay (ac (de_v 4) (ac (de_v 5) af)))) af)))) af))))) (ad (aA 6 aP.nd (aC aS (de_v 6) (b6 (ac (aG (ac ay (ac (aG (ac ay (ac (de_v 2) (ac (de_v 3) af)))) (ac (aG (ac ay (ac (de_v 4) (ac (de_v 5) af)))) af)))) (ac (aG (ac ay (ac (aG (ac ay (ac (de_v 2) (ac (aG (ac ay (ac (de_v 3) af))) af)))) af))) af))))) (ad (aA 6 aP.nd (aC aS (de_v 6) (b6 (ac (aG (ac ay (ac (aG (ac ay (ac (de_v 2) (ac (aG (ac ay (ac (de_v 3) (ac (de_v 4) af)))) af)))) af))) (ac (aG (ac ay (ac (aG (ac ay (ac (aG (ac ay (ac (de_v 2) (ac (de_v 3) af)))) (ac (aG (ac ay (ac (de_v 4) (ac (de_v 5) af)))) af)))) af))) af))))) (ag (av (ar au (de_v 6) (aC gN (de_v 1) ae) (fun _ _=>rfl))))))))),?_⟩
 obtain ⟨rows,c,rfl,h4,hr,q⟩:=h
 match rows,h4 with
 | [r0,r1,r2,r3],_=>?_
 refine ak fun K1 hK1=>?_
 walk_at "rd"
 refine⟨by rw [wF];exact (by decide:4≤9000),fun d=>match d with | .tup [.int k,r]=>some (if ((c.fdiv 32).fdiv (1 * 2 ^ k.toNat)).fmod 2=0 then r else .tup [.str "not",r]) | _=>none,fun x hx=>?_,?_⟩
 ·have hx:∃ (k:Nat) (r:Rw),k < 4∧x=.tup [.int (k:Nat),rwD r]:=by
   obtain ⟨k,hk⟩:=List.getElem?_of_mem hx
   obtain ⟨r,h1,h2⟩:=v6 (l:=[r0,r1,r2,r3]) (f:=rwD) hk
   exact⟨k,r,(CY.mp h1).1,h2⟩
  obtain ⟨k,r,k4,rfl⟩:=hx
  have p0:(0:Int) < 1 * 2 ^ (k:Int).toNat:=by rw [Int.one_mul];exact Int.pow_pos (by decide)
  have p1:(1 * 2 ^ (k:Int).toNat:Int) < 64:=by
   have:k=0∨k=1∨k=2∨k=3:=by omega
   rcases this with rfl | rfl | rfl | rfl<;>decide
  have m0:=Int.fmod_nonneg_of_pos ((c.fdiv 32).fdiv (1 * 2 ^ (k:Int).toNat)) (b:=2) (by decide)
  have m1:=Int.fmod_lt_of_pos ((c.fdiv 32).fdiv (1 * 2 ^ (k:Int).toNat)) (b:=2) (by decide)
  refine⟨_,rfl,rfl,_,_,rfl,_,_,rfl,rfl,uE (by decide) (by decide +kernel),_,_,rfl,⟨by omega,by omega,by decide⟩,_,_,rfl,uE (by omega) (lg64 p0 p1),_,_,rfl,cnz (by decide),_,CJ m0 m1,?_⟩
  rfl
 ·have el:(enD [rwD r0,rwD r1,rwD r2,rwD r3]).filterMap (fun d=>match d with | .tup [.int k,r]=>some (if ((c.fdiv 32).fdiv (1 * 2 ^ k.toNat)).fmod 2=0 then r else .tup [.str "not",r]) | _=>none)=[if ((c.fdiv 32).fdiv (1 * 2 ^ (0:Nat))).fmod 2=0 then rwD r0 else .tup [.str "not",rwD r0],if ((c.fdiv 32).fdiv (1 * 2 ^ (1:Nat))).fmod 2=0 then rwD r1 else .tup [.str "not",rwD r1],if ((c.fdiv 32).fdiv (1 * 2 ^ (2:Nat))).fmod 2=0 then rwD r2 else .tup [.str "not",rwD r2],if ((c.fdiv 32).fdiv (1 * 2 ^ (3:Nat))).fmod 2=0 then rwD r3 else .tup [.str "not",rwD r3]]:=rfl
  rw [el,lf_D,lf_D,lf_D,lf_D]
  have g0:=hr r0 (by simp)
  have g1:=hr r1 (by simp)
  have g2:=hr r2 (by simp)
  have g3:=hr r3 (by simp)
  generalize decide (((c.fdiv 32).fdiv (1 * 2 ^ (0:Nat))).fmod 2≠0)=b0
  generalize decide (((c.fdiv 32).fdiv (1 * 2 ^ (1:Nat))).fmod 2≠0)=b1
  generalize decide (((c.fdiv 32).fdiv (1 * 2 ^ (2:Nat))).fmod 2≠0)=b2
  generalize decide (((c.fdiv 32).fdiv (1 * 2 ^ (3:Nat))).fmod 2≠0)=b3
  refine⟨rfl,_,_,rfl,_,_,rfl,_,_,rfl,_,_,rfl,rfl,?_⟩
  rw [hK1]
  have d0:=pe b0 r0
  have d1:=pe b1 r1
  have d2:=pe b2 r2
  have d3:=pe b3 r3
  have o0:=uY (b:=b0) g0
  have o1:=uY (b:=b1) g1
  have o2:=uY (b:=b2) g2
  have o3:=uY (b:=b3) g3
  have t0:=vy (b:=b0) g0
  have t1:=vy (b:=b1) g1
  have t2:=vy (b:=b2) g2
  have t3:=vy (b:=b3) g3
  refine ak fun K2 hK2=>?_
  walk_at "rd"
  rw [hK2]
  refine ak fun K3 hK3=>?_
  walk_at "rd"
  rw [hK3]
  refine ak fun K4 hK4=>?_
  walk_at "rd"
  rw [hK4]
  refine ak fun K5 hK5=>?_
  walk_at "rd"
  rw [hK5]
  walk_at "rd"
  have m0:=Int.fmod_nonneg_of_pos c (b:=11) (by decide)
  have m1:=Int.fmod_lt_of_pos c (b:=11) (by decide)
  refine⟨cnz (by decide),?_⟩
  generalize c.fmod 11=m at *
  have fw:∀ s:Say,s.dep≤10→s.ok S4→s.bt 34→(s.pl false).num≤4→(s.pl false).long≤3→R s.D:=fun s a b c d e=>q s ⟨a,b,c,d,e⟩
  have hm:m=0∨m=1∨m=2∨m=3∨m=4∨m=5∨m=6∨m=7∨m=8∨m=9∨m=10:=by omega
  have few:∀ s:Say,(s.pl false).num≤4→(s.pl false).long≤3→(s.pl false).num≤4∧(s.pl false).long≤3:=fun s a b=>⟨a,b⟩
  clear few
  rcases hm with rfl | rfl | rfl | rfl | rfl | rfl | rfl | rfl | rfl | rfl | rfl
  ·refine⟨_,rfl,fw (lf b0 r0) ?_ o0 t0 ?_ ?_⟩
   ·first | omega | (simp only [Say.dep];omega)
   ·simp [Say.pl,Say.num,Say.long,bP,a5]
   ·simp [Say.pl,Say.num,Say.long,bP,a5]
  ·refine⟨_,rfl,fw (.bo (lf b0 r0) (lf b1 r1)) ?_ ⟨o0,o1⟩ ⟨t0,t1⟩ ?_ ?_⟩
   ·first | omega | (simp only [Say.dep];omega)
   ·simp [Say.pl,Say.num,Say.long,bP,a5]
   ·simp [Say.pl,Say.num,Say.long,bP,a5]
  ·refine⟨_,rfl,fw (.ei (lf b0 r0) (lf b1 r1)) ?_ ⟨o0,o1⟩ ⟨t0,t1⟩ ?_ ?_⟩
   ·first | omega | (simp only [Say.dep];omega)
   ·simp [Say.pl,Say.num,Say.long,bP,a5]
   ·simp [Say.pl,Say.num,Say.long,bP,a5]
  ·refine⟨_,rfl,fw (.bo (lf b0 r0) (.ei (lf b1 r1) (lf b2 r2))) ?_ ⟨o0,⟨o1,o2⟩⟩ ⟨t0,⟨t1,t2⟩⟩ ?_ ?_⟩
   ·first | omega | (simp only [Say.dep];omega)
   ·simp [Say.pl,Say.num,Say.long,bP,a5]
   ·simp [Say.pl,Say.num,Say.long,bP,a5]
  ·refine⟨_,rfl,fw (.ei (.bo (lf b0 r0) (lf b1 r1)) (lf b2 r2)) ?_ ⟨⟨o0,o1⟩,o2⟩ ⟨⟨t0,t1⟩,t2⟩ ?_ ?_⟩
   ·first | omega | (simp only [Say.dep];omega)
   ·simp [Say.pl,Say.num,Say.long,bP,a5]
   ·simp [Say.pl,Say.num,Say.long,bP,a5]
  ·refine⟨_,rfl,fw (.bo (.bo (lf b0 r0) (lf b1 r1)) (lf b2 r2)) ?_ ⟨⟨o0,o1⟩,o2⟩ ⟨⟨t0,t1⟩,t2⟩ ?_ ?_⟩
   ·first | omega | (simp only [Say.dep];omega)
   ·simp [Say.pl,Say.num,Say.long,bP,a5]
   ·simp [Say.pl,Say.num,Say.long,bP,a5]
  ·refine⟨_,rfl,fw (.ei (.ei (lf b0 r0) (lf b1 r1)) (.ei (lf b2 r2) (lf b3 r3))) ?_ ⟨⟨o0,o1⟩,⟨o2,o3⟩⟩ ⟨⟨t0,t1⟩,⟨t2,t3⟩⟩ ?_ ?_⟩
   ·first | omega | (simp only [Say.dep];omega)
   ·simp [Say.pl,Say.num,Say.long,bP,a5]
   ·simp [Say.pl,Say.num,Say.long,bP,a5]
  ·refine⟨_,rfl,fw (.bo (.ei (lf b0 r0) (lf b1 r1)) (.ei (lf b2 r2) (lf b3 r3))) ?_ ⟨⟨o0,o1⟩,⟨o2,o3⟩⟩ ⟨⟨t0,t1⟩,⟨t2,t3⟩⟩ ?_ ?_⟩
   ·first | omega | (simp only [Say.dep];omega)
   ·simp [Say.pl,Say.num,Say.long,bP,a5]
   ·simp [Say.pl,Say.num,Say.long,bP,a5]
  ·refine⟨_,rfl,fw (.nt (.bo (lf b0 r0) (.nt (lf b1 r1)))) ?_ ⟨o0,o1⟩ ⟨t0,t1⟩ ?_ ?_⟩
   ·first | omega | (simp only [Say.dep];omega)
   ·simp [Say.pl,Say.num,Say.long,bP,a5]
   ·simp [Say.pl,Say.num,Say.long,bP,a5]
  ·refine⟨_,rfl,fw (.nt (.ei (lf b0 r0) (.ei (lf b1 r1) (lf b2 r2)))) ?_ ⟨o0,⟨o1,o2⟩⟩ ⟨t0,⟨t1,t2⟩⟩ ?_ ?_⟩
   ·first | omega | (simp only [Say.dep];omega)
   ·simp [Say.pl,Say.num,Say.long,bP,a5]
   ·simp [Say.pl,Say.num,Say.long,bP,a5]
  ·refine⟨_,rfl,fw (.nt (.bo (.ei (lf b0 r0) (lf b1 r1)) (.ei (lf b2 r2) (lf b3 r3)))) ?_ ⟨⟨o0,o1⟩,⟨o2,o3⟩⟩ ⟨⟨t0,t1⟩,⟨t2,t3⟩⟩ ?_ ?_⟩
   ·first | omega | (simp only [Say.dep];omega)
   ·simp [Say.pl,Say.num,Say.long,bP,a5]
   ·simp [Say.pl,Say.num,Say.long,bP,a5]
inductive dl (ds:List D) (R:D→Prop):Prop
 | mk (ns:List Int) (hh:ds=[.fz (ns.map D.int)]∧ns.length≤63∧(∀ n∈ns,ib n≤1048576)∧∀ a b:Say,Sg a→Sg b→R (.lst [a.D,b.D]))
theorem gd:∀ ds R,dl ds R→ds.length=1:=fun _ _ h_0=>by obtain ⟨_,e,_⟩:=h_0;rw [e];rfl
theorem oR {ns:List Int} {g:Int→Int} {m:Nat}:((List.range m).map fun (i:Nat)=>D.int (i:Int)).filterMap (fun d=>match d with | .int k=>some (D.int (g k)) | _=>none)=((List.range m).map fun (i:Nat)=>g i).map D.int:=by
 rw [List.map_map]
 exact aN _ _ _ _ fun x _=>rfl
theorem j3:∀ s:Say,DL.D.im s.D=true
 | .row k ts b=>B1 (k,ts,b)
 | .nt s=>by show D.im (.tup [.str "not",s.D])=true;simp only [D.im,D.ims,j3 s];rfl
 | .bo s t=>by show D.im (.tup [.str "both",s.D,t.D])=true;simp only [D.im,D.ims,j3 s,j3 t];rfl
 | .ei s t=>by show D.im (.tup [.str "either",s.D,t.D])=true;simp only [D.im,D.ims,j3 s,j3 t];rfl
theorem aY:ax ["_law_script","_law_fence_here","_law_found","_law_side","_law_rows","_law_k","_law_cells"] ["_law_script"] (am s__law_sayings):=⟨rfl,rfl,rfl,by decide +kernel,rfl,by decide +kernel,by decide +kernel⟩
theorem io (F:Fd K mg "_law_sayings" s__law_sayings ["_law_script"]) (bD:Cal P w K mg base 1 "_law_number" ["_law_cell_here"] (spD K (cO))) (cq:Cal P w K mg base 1 "_law_cell" ["_law_script","_law_k"] (spD K (fi))) (ef:Cal P w K mg base 1 "_law_fence" ["_law_cells","_law_fence_here","_law_side"] (spD K (er))) (fD:Cal P w K mg base 2 "_law_line" ["_law_cells","_law_names_here"] (spD K (fN))) (dO:Cal P w K mg base 1 "_law_shaped" ["_law_rows","_law_cell_here"] (spD K (dP))) (cH:mg "range"=none):Cal P w K mg base 3 "_law_sayings" ["_law_script"] (spD K dl):=by
 refine fn_D F aY gd fun fa cdv A outer s H E ds R hr h=>?_
 have hU:=hr.units
 refine⟨_,(ad (eK 1 aY.nd ["_law_k"] [(0,"_law_script")] rfl rfl (by decide +kernel) rfl (by decide +kernel) (bR ⟨rfl,trivial⟩) (bZ rfl) (bn ⟨⟨rfl,rfl,.inl rfl⟩,trivial⟩) (kl rfl cH (ac ae af)) fun _ _ _ _ _=>⟨(ap 0 (show List.Nodup (["_law_k","_law_script"]:List Str) by decide +kernel)),dQ,(aq bD (rm hr) rfl (ac (aq cq (rm hr) rfl (ac (de_v 1) (ac (aC aS ae (de_v 0)) af))) af))⟩) (ad (et 2 aY.nd af) (ad (nr PassesOwn.never rfl rfl cH (ac ae af) (ap 3 aY.nd) (ad (et 4 aY.nd af) (ad (nr PassesOwn.never rfl rfl cH (ac ae af) (ap 5 aY.nd) (ad (eK 6 aY.nd ["_law_j"] [(0,"_law_script"),(3,"_law_side"),(5,"_law_k")] rfl rfl (by decide +kernel) rfl (by decide +kernel) (bR ⟨rfl,rfl,rfl,trivial⟩) (bZ rfl) (bn ⟨⟨rfl,rfl,.inl rfl⟩,⟨rfl,rfl,.inl rfl⟩,⟨rfl,rfl,.inl rfl⟩,trivial⟩) (kl rfl cH (ac ae af)) fun _ _ _ _ _=>⟨(ap 0 (show List.Nodup (["_law_j","_law_script","_law_side","_law_k"]:List Str) by decide +kernel)),dQ,(aq cq (rm hr) rfl (ac (de_v 1) (ac (aC aS (aC aS (aC aS ae (aC bF ae (de_v 2))) (aC bF ae (de_v 3))) (de_v 0)) af)))⟩) (ag (aR (aH (o_eq hU) (aC gN (aC eW (aq cq (rm hr) rfl (ac (de_v 0) (ac ae af))) ae) ae) ae (aB _)) (ag (bN 4 (aq ef (rm hr) rfl (ac (de_v 6) (ac (de_v 1) (ac (de_v 3) af)))))) (ag (bN 4 (aq fD (rm hr) rfl (ac (de_v 6) (ac (ar au (b6 (ac (b6 (ac ay (ac ay (ac ay af)))) (ac (b6 (ac ay (ac ay (ac ay af)))) af))) (de_v 3) (fun _ _=>rfl)) af))))))))) (ag (bN 2 (wK 4 dO (rm hr) rfl (aq cq (rm hr) rfl (ac (de_v 0) (ac (de_v 3) af))))))))) (dA 2 (ag (av (de_v 2))))))),?_⟩
 obtain ⟨ns,rfl,h63,hb,q⟩:=h
 have cbt:∀ k,ib (dD ns k)≤1048576:=fun k=>rS hb k
 refine ak fun K1 hK1=>?_
 walk_at "rd"
 refine⟨by decide,by decide,by decide,fun d=>match d with | .int k=>some (.int (numL (dD ns (2 + k)))) | _=>none,fun x hx=>?_,?_⟩
 ·obtain ⟨k,hk,rfl⟩:=CM.mp hx
  exact⟨ns,_,rfl,by omega,_,rfl,CN (cbt _) (by decide),rfl⟩
 rw [show Int.toNat 3=3 from rfl,oR (ns:=ns) (g:=fun k=>numL (dD ns (2 + k))),hK1]
 generalize hfs:(List.range 3).map (fun (i:Nat)=>numL (dD ns (2 + (i:Int))))=fs
 have f3:fs.length=3:=by rw [← hfs,CK,List.length_range]
 have f30:∀ f∈fs,ib f≤30:=fun f hf=>by
  rw [← hfs] at hf
  obtain ⟨i,_,rfl⟩:=CM.mp hf
  exact gm _
 clear hfs
 refine ak fun K2 hK2=>?_
 walk_at "rd"
 intro oa
 rw [hK2]
 refine ak fun K3 hK3=>?_
 refine oF fun F N hF hN=>?_
 simp only [sY]
 walk_at "rd"
 refine⟨by decide,by decide,fun i δ=>∃ (ss:List Say) (x y z u:Sl),δ=[.dat (.fz (ns.map D.int)),.dat (.lst (fs.map D.int)),.own oa (.lst (ss.map Say.D)),x,y,z,u]∧ss.length=i∧∀ s∈ss,Sg s,⟨[],_,_,_,_,rfl,rfl,fun _ h=>(nomatch h)⟩,?_,?_⟩
 ·rintro i δ hi ⟨ss,x,y,z,u,rfl,hl,hss⟩
  have hi:i < 2:=hi
  rw [hF]
  show gU _ _ _ _
  refine cD fun K4 hK4=>?_
  walk_at "rd"
  intro ra
  rw [hK4]
  refine ak fun K5 hK5=>?_
  refine oF fun F2 N2 hF2 hN2=>?_
  simp only [sY]
  walk_at "rd"
  refine⟨by decide,by decide,fun j δ=>∃ (rows:List Rw) (z u:Sl),δ=[.dat (.fz (ns.map D.int)),.dat (.lst (fs.map D.int)),.own oa (.lst (ss.map Say.D)),.dat (.int (i:Int)),.own ra (.lst (rows.map rwD)),z,u]∧rows.length=j∧∀ r∈rows,Rg r,⟨[],_,_,rfl,rfl,fun _ h=>(nomatch h)⟩,?_,?_⟩
  ·rintro j δ hj ⟨rows,z,u,rfl,hlr,hrs⟩
   have hj:j < 4:=hj
   rw [hF2]
   show gU _ _ _ _
   refine cD fun K6 hK6=>?_
   walk_at "rd"
   refine⟨by decide,by decide,by decide,fun d=>match d with | .int k=>some (.int (dD ns (5 + 20 * (i:Int) + 5 * (j:Int) + k))) | _=>none,fun x hx=>?_,?_⟩
   ·obtain ⟨k,hk,rfl⟩:=CM.mp hx
    exact⟨IntMulOk.of_left (by decide),IntMulOk.of_left (by decide),ns,_,rfl,by omega,rfl⟩
   rw [show Int.toNat 5=5 from rfl,oR (ns:=ns) (g:=fun k=>dD ns (5 + 20 * (i:Int) + 5 * (j:Int) + k)),hK6]
   generalize hcs:(List.range 5).map (fun (k:Nat)=>dD ns (5 + 20 * (i:Int) + 5 * (j:Int) + (k:Int)))=cs
   have c5:cs.length=5:=by rw [← hcs,CK,List.length_range]
   have cb:∀ c∈cs,ib c≤1048600:=fun f hf=>by
    rw [← hcs] at hf
    obtain ⟨k,_,rfl⟩:=CM.mp hf
    exact CN (cbt _) (by decide)
   clear hcs
   have app:∀ r:Rw,Rg r→∃ rows':List Rw,rows.map rwD++[rwD r]=rows'.map rwD∧rows'.length=j + 1∧∀ r∈rows',Rg r:=fun r hr=>⟨rows++[r],by rw [C3];rfl,by rw [CW,List.length_singleton,hlr],fun r' hr'=>(CV.mp hr').elim (hrs r') fun z=>by rw [C2.mp z];exact hr⟩
   walk_at "rd"
   refine⟨ns,0,rfl,by decide,?_⟩
   walk_at "rd"
   have hii:i=0∨i=1:=by omega
   refine⟨uE (by decide) (by decide +kernel),cnz (by decide),ite2 (fun _=>?_) fun _=>?_⟩
   ·refine⟨cs,fs,_,rfl,c5,f3,f30,by omega,fun r hr=>⟨by rw [CK];omega,app r hr⟩⟩
   ·rcases hii with rfl | rfl
    ·exact⟨_,at0,cs,["a","b","c"],rfl,c5,cb,rfl,by decide +kernel,fun r hr=>⟨by rw [CK];omega,app r hr⟩⟩
    ·exact⟨_,at1,cs,["b","c","d"],rfl,c5,cb,rfl,by decide +kernel,fun r hr=>⟨by rw [CK];omega,app r hr⟩⟩
  ·rintro δ ⟨rows,z,u,rfl,hlr,hrs⟩
   have hlr:rows.length=4:=hlr
   rw [hN2,hK5]
   walk_at "rd"
   exact⟨ns,_,rfl,by omega,rows,_,rfl,hlr,hrs,fun s hs=>⟨j3 s,by rw [CK];omega,ss++[s],by rw [C3];rfl,by rw [CW,List.length_singleton,hl],fun s' hs'=>(CV.mp hs').elim (hss s') fun z=>by rw [C2.mp z];exact hs⟩⟩
 ·rintro δ ⟨ss,x,y,z,u,rfl,hl,hss⟩
  have hl:ss.length=2:=hl
  rw [hN,hK3]
  walk_at "rd"
  match ss,hl with
  | [a,b],_=>exact q a b (hss a (by simp)) (hss b (by simp))
inductive cG (n:Nat) (ds:List D) (R:D→Prop):Prop
 | mk (s:Say) (ks:List Str) (ps:List (Int×Int)) (names:List Str) (hh:ds=[s.D,.fd ks (ps.map frD)]∧s.dep≤n∧s.ok names∧names.Nodup∧names.length≤60∧(∀ x∈s.nms,x∈ks)∧Pk ks ps∧R (.bl (s.tv (pT ks ps) (pB ks ps))))
theorem kD (n:Nat):∀ ds R,cG n ds R→ds.length=2:=fun _ _ h_0=>by obtain ⟨_,_,_,_,e,_⟩:=h_0;rw [e];rfl
theorem jv:∀ ds R,¬ cG 0 ds R:=fun _ _ h_0=>by obtain ⟨s,_,_,_,_,h,_⟩:=h_0;have:=s.dep_pos;omega
theorem qo:ax ["_law_saying","_law_point"] ["_law_saying","_law_point"] (am s__law_so):=⟨rfl,rfl,rfl,by decide +kernel,rfl,by decide +kernel,by decide +kernel⟩
theorem nX (F:Fd K mg "_law_so" s__law_so ["_law_saying","_law_point"]) (dH:Cal P w K mg base 2 "_law_row_so" ["_law_row","_law_point"] (spD K (dI))) {n:Nat} (bE:Cal P w K mg base (3 + n) "_law_so" ["_law_saying","_law_point"] (spD K (cG n))):Cal P w K mg base (3 + n + 1) "_law_so" ["_law_saying","_law_point"] (spD K (cG (n + 1))):=by
 refine fn_D (k:=3 + n) F qo (kD (n + 1)) fun fa cdv A outer s H E ds R hr h=>?_
 have hU:=hr.units
 refine⟨_,(ad (aR (aH (o_eq hU) (ar au (de_v 0) ae (fun _ _=>rfl)) ay (aB _)) (ag (av (l6 (aq bE (hr.mono (by omega)) rfl (ac (ar au (de_v 0) ae (fun _ _=>rfl)) (ac (de_v 1) af)))))) aD) (ad (aR (aH (o_eq hU) (ar au (de_v 0) ae (fun _ _=>rfl)) ay (aB _)) (ag (av (gS (aq bE (hr.mono (by omega)) rfl (ac (ar au (de_v 0) ae (fun _ _=>rfl)) (ac (de_v 1) af))) (cZ (aq bE (hr.mono (by omega)) rfl (ac (ar au (de_v 0) ae (fun _ _=>rfl)) (ac (de_v 1) af))))))) aD) (ad (aR (aH (o_eq hU) (ar au (de_v 0) ae (fun _ _=>rfl)) ay (aB _)) (ag (av (qq (aq bE (hr.mono (by omega)) rfl (ac (ar au (de_v 0) ae (fun _ _=>rfl)) (ac (de_v 1) af))) (cZ (aq bE (hr.mono (by omega)) rfl (ac (ar au (de_v 0) ae (fun _ _=>rfl)) (ac (de_v 1) af))))))) aD) (ag (av (aq dH (hr.mono (by omega)) rfl (ac (de_v 0) (ac (de_v 1) af)))))))),?_⟩
 obtain ⟨s,ks,ps,names,rfl,hd,ok,nnd,nl,hin,P,q⟩:=h
 refine ak fun K1 hK1=>?_
 cases s with
 | row k ts b =>
  unfold Say.D rowD
  have k1:kdS k≠"not":=by cases k<;>decide
  have k2:kdS k≠"both":=by cases k<;>decide
  have k3:kdS k≠"either":=by cases k<;>decide
  walk_at "rd"
  refine ifn k1 ?_
  rw [hK1]
  refine ak fun K2 hK2=>?_
  walk_at "rd"
  refine ifn k2 ?_
  rw [hK2]
  refine ak fun K3 hK3=>?_
  walk_at "rd"
  refine ifn k3 ?_
  rw [hK3]
  walk_at "rd"
  refine⟨(k,ts,b),ks,ps,rfl,nnd.sublist ok.1.sub,?_,ok.2,fun t ht=>⟨hin _ (CM.mpr ⟨t,ht,rfl⟩),ok.1.bits t ht⟩,P,q⟩
  have:=ok.1.sub.length_le
  rw [CK] at this
  show ts.length≤60
  omega
 | nt s =>
  unfold Say.D
  walk_at "rd"
  have hd:s.dep + 1≤n + 1:=hd
  exact⟨s,ks,ps,names,rfl,by omega,ok,nnd,nl,hin,P,_,rfl,q⟩
 | bo s t =>
  unfold Say.D
  have hd:max s.dep t.dep + 1≤n + 1:=hd
  have q:R (.bl (s.tv (pT ks ps) (pB ks ps) && t.tv (pT ks ps) (pB ks ps))):=q
  walk_at "rd"
  refine ifn (by decide) ?_
  rw [hK1]
  refine ak fun K2 hK2=>?_
  walk_at "rd"
  refine⟨s,ks,ps,names,rfl,by omega,ok.1,nnd,nl,fun x hx=>hin x (CU _ hx),P,_,rfl,?_⟩
  cases e:s.tv (pT ks ps) (pB ks ps) with
  | true =>
   rw [e] at q
   exact ifp rfl ⟨t,ks,ps,names,rfl,by omega,ok.2,nnd,nl,fun x hx=>hin x (CT _ hx),P,q⟩
  | false =>
   rw [e] at q
   exact ifn (by decide) q
 | ei s t =>
  unfold Say.D
  have hd:max s.dep t.dep + 1≤n + 1:=hd
  have q:R (.bl (s.tv (pT ks ps) (pB ks ps) || t.tv (pT ks ps) (pB ks ps))):=q
  walk_at "rd"
  refine ifn (by decide) ?_
  rw [hK1]
  refine ak fun K2 hK2=>?_
  walk_at "rd"
  refine ifn (by decide) ?_
  rw [hK2]
  refine ak fun K3 hK3=>?_
  walk_at "rd"
  refine⟨s,ks,ps,names,rfl,by omega,ok.1,nnd,nl,fun x hx=>hin x (CU _ hx),P,_,rfl,?_⟩
  cases e:s.tv (pT ks ps) (pB ks ps) with
  | true =>
   rw [e] at q
   exact ifp rfl q
  | false =>
   rw [e] at q
   exact ifn (by decide) ⟨t,ks,ps,names,rfl,by omega,ok.2,nnd,nl,fun x hx=>hin x (CT _ hx),P,q⟩
theorem ld {c:TDT} {t u:TDS} {R:gh} {δ:En} (h:∀ A B:En→Prop,A=t R→B=u R→c δ fun b δ1=>if b=true then A δ1 else B δ1):dIf c t u R δ:=h _ _ rfl rfl
theorem pF {s:Say} {t:Bool} (h4:(s.pl t).num≤4):(s.pl t).kr.length≤4:=by rw [Say.kr_num Say.pl_pn];exact h4
inductive bA (n:Nat) (ds:List D) (R:D→Prop):Prop
 | mk (s:Say) (t:Bool) (names:List Str) (hh:ds=[s.D,.bl t]∧s.dep≤n∧s.ok names∧names.length≤60∧(s.pl (!t)).num≤4∧(s.pl (!t)).long≤3∧R (krD (s.pl (!t)).kr))
theorem ig (n:Nat):∀ ds R,bA n ds R→ds.length=2:=fun _ _ h_0=>by obtain ⟨_,_,_,e,_⟩:=h_0;rw [e];rfl
theorem gK:∀ ds R,¬ bA 0 ds R:=fun _ _ h_0=>by obtain ⟨s,_,_,_,h,_⟩:=h_0;have:=s.dep_pos;omega
theorem bC:ax ["_law_saying","_law_so_here","_law_ones","_law_others","_law_found","_law_one","_law_terms"] ["_law_saying","_law_so_here"] (am s__law_cases):=⟨rfl,rfl,rfl,by decide +kernel,rfl,by decide +kernel,by decide +kernel⟩
theorem jw (F:Fd K mg "_law_cases" s__law_cases ["_law_saying","_law_so_here"]) (aK:mg "tuple"=none) (qf:mg "int"=none) {n:Nat} (aW:Cal P w K mg base (1 + n) "_law_cases" ["_law_saying","_law_so_here"] (spD K (bA n))):Cal P w K mg base (1 + n + 1) "_law_cases" ["_law_saying","_law_so_here"] (spD K (bA (n + 1))):=by
 refine fn_D (k:=1 + n) F bC (ig (n + 1)) fun fa cdv A outer s H E ds R hr h=>?_
 have hU:=hr.units
 refine⟨_,(ad (aR (aH (o_eq hU) (ar au (de_v 0) ae (fun _ _=>rfl)) ay (aB _)) (ag (av (aq aW (hr.mono (by omega)) rfl (ac (ar au (de_v 0) ae (fun _ _=>rfl)) (ac (l6 (de_v 1)) af))))) aD) (ad (aR (DW.dt (jB (aH (o_eq hU) (ar au (de_v 0) ae (fun _ _=>rfl)) ay (aB _)) (eS (aH (o_eq hU) (ar au (de_v 0) ae (fun _ _=>rfl)) ay (aB _))))) (ad (aA 2 bC.nd (aq aW (hr.mono (by omega)) rfl (ac (ar au (de_v 0) ae (fun _ _=>rfl)) (ac (de_v 1) af)))) (ad (aA 3 bC.nd (aq aW (hr.mono (by omega)) rfl (ac (ar au (de_v 0) ae (fun _ _=>rfl)) (ac (de_v 1) af)))) (ad (aR (aH (o_eq hU) (cN (o_eq hU) (ar au (de_v 0) ae (fun _ _=>rfl)) ay (aB _)) (de_v 1) (aB _)) (ag (av (aC aS (de_v 2) (de_v 3)))) aD) (ad (aA 4 bC.nd (b6 af)) (ad (cJ PassesOwn.never rfl (de_v 2) (ap 5 bC.nd) (ag (aA 4 bC.nd (aC aS (de_v 4) (cy ["_law_other"] [(5,"_law_one")] rfl rfl (by decide +kernel) rfl (by decide +kernel) (bR ⟨rfl,trivial⟩) (bZ rfl) (bn ⟨⟨rfl,rfl,.inl rfl⟩,trivial⟩) (fP (de_v 3)) fun _ _ _ _ _=>⟨(ap 0 (show List.Nodup (["_law_other","_law_one"]:List Str) by decide +kernel)),dQ,(aC aS (de_v 1) (de_v 0))⟩))))) (ag (av (de_v 4)))))))) aD) (ad (aR (cm (de_v 1)) (ag (av (b6 (ac (b6 (ac (de_v 0) af)) af)))) aD) (ad (aA 6 bC.nd (cF fe rfl aK cB (ac (cy ["_law_name","_law_weight"] [] rfl rfl (by decide +kernel) rfl (by decide +kernel) (bR trivial) (bZ rfl) (bn trivial) (lH (ar au (de_v 0) ae (fun _ _=>rfl))) fun _ _ _ _ _=>⟨(bY (n:=2) rfl (aw (ap 0 (show List.Nodup (["_law_name","_law_weight"]:List Str) by decide +kernel)) (aw (ap 1 (show List.Nodup (["_law_name","_law_weight"]:List Str) by decide +kernel)) aZ))),dQ,(aG (ac (de_v 0) (ac (aC jD ae (de_v 1)) af)))⟩) af))) (ag (av (b6 (ac (b6 (ac (aG (ac (ar au (b6 (ac ay (ac ay af))) (cF B7 rfl qf AX (ac (cN (o_eq hU) (ar au (de_v 0) ae (fun _ _=>rfl)) ay (aB _)) af)) (fun _ _=>rfl)) (ac (de_v 6) (ac (aC jD ae (ar au (de_v 0) ae (fun _ _=>rfl))) af)))) af)) af)))))))),?_⟩
 obtain ⟨s,t,names,rfl,hd,ok,nl,h4,h3,q⟩:=h
 cases s with
 | row k ts b =>
  unfold Say.D rowD
  have k1:kdS k≠"not":=by cases k<;>decide
  have k2:kdS k≠"both":=by cases k<;>decide
  have k3:kdS k≠"either":=by cases k<;>decide
  refine ak fun K1 hK1=>?_
  walk_at "rd"
  refine ifn k1 ?_
  rw [hK1]
  refine ak fun K2 hK2=>?_
  refine ld fun I1 I2 hI1 hI2=>?_
  walk_at "rd"
  refine ifn k2 (ifn k3 ?_)
  rw [hI2]
  walk_at "rd"
  rw [hK2]
  refine ak fun K3 hK3=>?_
  walk_at "rd"
  have hlt:ts.length≤60:=by
   have:=ok.1.sub.length_le
   rw [CK] at this
   omega
  cases t with
  | true=>exact ifp rfl q
  | false =>
   refine ifn (by decide) ?_
   rw [hK3]
   refine ak fun K4 hK4=>?_
   walk_at "rd"
   refine⟨by rw [CK];omega,fun d=>match d with | .tup [n,.int w]=>some (.tup [n,.int (0 - w)]) | _=>none,fun x hx=>?_,?_⟩
   ·obtain ⟨t,_,rfl⟩:=CM.mp hx
    exact⟨_,rfl,rfl,_,_,rfl,_,_,rfl,rfl,_,_,rfl,rfl⟩
   have e1:(ts.map tmD).filterMap (fun d=>match d with | .tup [n,.int w]=>some (D.tup [n,.int (0 - w)]) | _=>none)=(negT ts).map tmD:=by
    unfold negT
    rw [List.map_map]
    exact aN _ _ _ _ fun t _=>by show some (D.tup [.str t.1,.int (0 - t.2)])=some (D.tup [.str t.1,.int (-t.2)]);rw [Int.zero_sub]
   rw [e1,hK4]
   walk_at "rd"
   have q:R (.lst [.lst [.tup [.str (kdS k.op),.tup ((negT ts).map tmD),.int (-b)]]]):=q
   rw [← Int.zero_sub] at q
   cases k with
   | least=>exact⟨_,at0,q⟩
   | more=>exact⟨_,at1,q⟩
 | nt s =>
  unfold Say.D
  have hd:s.dep + 1≤n + 1:=hd
  refine ak fun K1 hK1=>?_
  walk_at "rd"
  refine⟨s,!t,names,rfl,by omega,ok,nl,h4,h3,q⟩
 | bo s u =>
  unfold Say.D
  have hd:max s.dep u.dep + 1≤n + 1:=hd
  have hp:=(s.pl (!t)).num_pos
  have hp':=(u.pl (!t)).num_pos
  have hq:=(s.pl (!t)).long_pos
  have hq':=(u.pl (!t)).long_pos
  have fw:(s.pl (!t)).num≤4∧(s.pl (!t)).long≤3∧(u.pl (!t)).num≤4∧(u.pl (!t)).long≤3:=by
   cases t<;>simp only [Say.pl,Bool.not_true,Bool.not_false,if_true,if_false,reduceCtorEq,Say.num,Say.long] at h4 h3 hp hp' hq hq' ⊢
   ·refine⟨?_,?_,?_,?_⟩<;>first | omega | exact CN (Nat.le_mul_of_pos_right _ hp') h4 | exact CN (Nat.le_mul_of_pos_left _ hp) h4
   ·refine⟨?_,?_,?_,?_⟩<;>first | omega | exact CN (Nat.le_mul_of_pos_right _ hp') h4 | exact CN (Nat.le_mul_of_pos_left _ hp) h4
  obtain ⟨fa,fb,fc,fd⟩:=fw
  have la:=pF fa
  have lb:=pF fc
  have ga:∀ c∈(s.pl (!t)).kr,c.length≤3:=fun c hc=>CN (Say.kr_long Say.pl_pn hc) fb
  have gb:∀ c∈(u.pl (!t)).kr,c.length≤3:=fun c hc=>CN (Say.kr_long Say.pl_pn hc) fd
  refine ak fun K1 hK1=>?_
  walk_at "rd"
  refine ifn (by decide) ?_
  rw [hK1]
  refine ak fun K2 hK2=>?_
  refine ld fun I1 I2 hI1 hI2=>?_
  walk_at "rd"
  rw [hI1]
  refine ak fun K3 hK3=>?_
  walk_at "rd"
  refine⟨s,t,names,rfl,by omega,ok.1,nl,fa,fb,?_⟩
  rw [hK3]
  refine ak fun K4 hK4=>?_
  walk_at "rd"
  refine⟨u,t,names,rfl,by omega,ok.2,nl,fc,fd,?_⟩
  rw [hK4]
  have q1:t=false→R (krD ((s.pl (!t)).kr++(u.pl (!t)).kr)):=fun e=>by subst e;exact q
  have q2:t=true→R (krD ((s.pl (!t)).kr.flatMap fun c=>(u.pl (!t)).kr.map fun d=>c++d)):=fun e=>by subst e;exact q
  generalize (s.pl (!t)).kr=A at *
  generalize (u.pl (!t)).kr=B at *
  refine ak fun K5 hK5=>?_
  refine ld fun I3 I4 hI3 hI4=>?_
  walk_at "rd"
  cases t with
  | false =>
   refine ifp (by decide) ?_
   rw [hI3]
   unfold krD
   walk_at "rd"
   refine⟨by rw [CK,CK];omega,?_⟩
   have:=q1 rfl
   unfold krD at this
   rw [C3] at this
   exact this
  | true =>
   refine ifn (by decide) ?_
   rw [hI4]
   walk_at "rd"
   rw [hK5]
   refine ak fun K6 hK6=>?_
   walk_at "rd"
   rw [hK6]
   refine ak fun K7 hK7=>?_
   refine c7 fun F N hF hN=>?_
   simp only [gq]
   unfold krD
   walk_at "rd"
   refine⟨fun i δ=>∃ x,δ=[_,.dat (.bl _),.dat (.lst (A.map fun c=>.lst (c.map rwD))),.dat (.lst (B.map fun c=>.lst (c.map rwD))),.dat (.lst (((A.take i).flatMap fun c=>B.map fun d=>c++d).map fun c=>.lst (c.map rwD))),x,.no],⟨_,rfl⟩,?_,?_⟩
   ·rintro i d δ hd ⟨x,rfl⟩
    obtain ⟨c,hc,rfl⟩:=pS hd
    have hcm:=C1 hc
    have l3:=ga c hcm
    have hil:=(CY.mp hc).1
    rw [hF]
    walk_at "rd"
    refine⟨by rw [CK];omega,fun d=>match d with | .lst e=>some (.lst (c.map rwD++e)) | _=>none,fun x hx=>?_,?_⟩
    ·obtain ⟨e,he,rfl⟩:=CM.mp hx
     have:=gb e he
     walk_at "rd"
     rw [CK,CK]
     omega
    ·have e1:(B.map fun c=>D.lst (c.map rwD)).filterMap (fun d=>match d with | .lst e=>some (.lst (c.map rwD++e)) | _=>none)=(B.map fun d=>c++d).map fun c=>D.lst (c.map rwD):=by
      rw [List.map_map]
      exact aN _ _ _ _ fun x _=>by show some (D.lst (c.map rwD++x.map rwD))=some (D.lst ((c++x).map rwD));rw [C3]
     rw [e1,← C3,aF hc,List.flatMap_append,List.flatMap_singleton]
     refine⟨?_,rfl⟩
     have:=t9 (fun c d=>c++d) B (A.take i)
     rw [CK,CK,CK,this,De]
     have:min i A.length * B.length≤4 * 4:=Nat.mul_le_mul (by omega) lb
     omega
   ·rintro δ ⟨x,rfl⟩
    rw [CK,C4,hN,hK7]
    walk_at "rd"
    exact q2 rfl
 | ei s u =>
  unfold Say.D
  have hd:max s.dep u.dep + 1≤n + 1:=hd
  have hp:=(s.pl (!t)).num_pos
  have hp':=(u.pl (!t)).num_pos
  have hq:=(s.pl (!t)).long_pos
  have hq':=(u.pl (!t)).long_pos
  have fw:(s.pl (!t)).num≤4∧(s.pl (!t)).long≤3∧(u.pl (!t)).num≤4∧(u.pl (!t)).long≤3:=by
   cases t<;>simp only [Say.pl,Bool.not_true,Bool.not_false,if_true,if_false,reduceCtorEq,Say.num,Say.long] at h4 h3 hp hp' hq hq' ⊢
   ·refine⟨?_,?_,?_,?_⟩<;>first | omega | exact CN (Nat.le_mul_of_pos_right _ hp') h4 | exact CN (Nat.le_mul_of_pos_left _ hp) h4
   ·refine⟨?_,?_,?_,?_⟩<;>first | omega | exact CN (Nat.le_mul_of_pos_right _ hp') h4 | exact CN (Nat.le_mul_of_pos_left _ hp) h4
  obtain ⟨fa,fb,fc,fd⟩:=fw
  have la:=pF fa
  have lb:=pF fc
  have ga:∀ c∈(s.pl (!t)).kr,c.length≤3:=fun c hc=>CN (Say.kr_long Say.pl_pn hc) fb
  have gb:∀ c∈(u.pl (!t)).kr,c.length≤3:=fun c hc=>CN (Say.kr_long Say.pl_pn hc) fd
  refine ak fun K1 hK1=>?_
  walk_at "rd"
  refine ifn (by decide) ?_
  rw [hK1]
  refine ak fun K2 hK2=>?_
  refine ld fun I1 I2 hI1 hI2=>?_
  walk_at "rd"
  refine ifn (by decide) ?_
  rw [hI1]
  refine ak fun K3 hK3=>?_
  walk_at "rd"
  refine⟨s,t,names,rfl,by omega,ok.1,nl,fa,fb,?_⟩
  rw [hK3]
  refine ak fun K4 hK4=>?_
  walk_at "rd"
  refine⟨u,t,names,rfl,by omega,ok.2,nl,fc,fd,?_⟩
  rw [hK4]
  have q1:t=true→R (krD ((s.pl (!t)).kr++(u.pl (!t)).kr)):=fun e=>by subst e;exact q
  have q2:t=false→R (krD ((s.pl (!t)).kr.flatMap fun c=>(u.pl (!t)).kr.map fun d=>c++d)):=fun e=>by subst e;exact q
  generalize (s.pl (!t)).kr=A at *
  generalize (u.pl (!t)).kr=B at *
  refine ak fun K5 hK5=>?_
  refine ld fun I3 I4 hI3 hI4=>?_
  walk_at "rd"
  cases t with
  | true =>
   refine ifp (by decide) ?_
   rw [hI3]
   unfold krD
   walk_at "rd"
   refine⟨by rw [CK,CK];omega,?_⟩
   have:=q1 rfl
   unfold krD at this
   rw [C3] at this
   exact this
  | false =>
   refine ifn (by decide) ?_
   rw [hI4]
   walk_at "rd"
   rw [hK5]
   refine ak fun K6 hK6=>?_
   walk_at "rd"
   rw [hK6]
   refine ak fun K7 hK7=>?_
   refine c7 fun F N hF hN=>?_
   simp only [gq]
   unfold krD
   walk_at "rd"
   refine⟨fun i δ=>∃ x,δ=[_,.dat (.bl _),.dat (.lst (A.map fun c=>.lst (c.map rwD))),.dat (.lst (B.map fun c=>.lst (c.map rwD))),.dat (.lst (((A.take i).flatMap fun c=>B.map fun d=>c++d).map fun c=>.lst (c.map rwD))),x,.no],⟨_,rfl⟩,?_,?_⟩
   ·rintro i d δ hd ⟨x,rfl⟩
    obtain ⟨c,hc,rfl⟩:=pS hd
    have hcm:=C1 hc
    have l3:=ga c hcm
    have hil:=(CY.mp hc).1
    rw [hF]
    walk_at "rd"
    refine⟨by rw [CK];omega,fun d=>match d with | .lst e=>some (.lst (c.map rwD++e)) | _=>none,fun x hx=>?_,?_⟩
    ·obtain ⟨e,he,rfl⟩:=CM.mp hx
     have:=gb e he
     walk_at "rd"
     rw [CK,CK]
     omega
    ·have e1:(B.map fun c=>D.lst (c.map rwD)).filterMap (fun d=>match d with | .lst e=>some (.lst (c.map rwD++e)) | _=>none)=(B.map fun d=>c++d).map fun c=>D.lst (c.map rwD):=by
      rw [List.map_map]
      exact aN _ _ _ _ fun x _=>by show some (D.lst (c.map rwD++x.map rwD))=some (D.lst ((c++x).map rwD));rw [C3]
     rw [e1,← C3,aF hc,List.flatMap_append,List.flatMap_singleton]
     refine⟨?_,rfl⟩
     have:=t9 (fun c d=>c++d) B (A.take i)
     rw [CK,CK,CK,this,De]
     have:min i A.length * B.length≤4 * 4:=Nat.mul_le_mul (by omega) lb
     omega
   ·rintro δ ⟨x,rfl⟩
    rw [CK,C4,hN,hK7]
    walk_at "rd"
    exact q2 rfl
def Sh (rows:List Rw) (w:List Int):Prop:=w.length=rows.length∧(∀ a∈w,0≤a)∧(∀ n,cfs (rows.zip w) n=0)∧(0 < bds (rows.zip w)∨(bds (rows.zip w)=0∧stc (rows.zip w)=true))
theorem mi.sh {rows:List Rw} {w:List Int} (h:mi rows w):Sh rows w:=⟨h.wt.len,h.wt.nn,h.no,h.bd⟩
noncomputable def shB (rows:List Rw) (w:List Int):Bool:=@decide (Sh rows w) (Classical.propDecidable _)
theorem mX {rows:List Rw} {w:List Int}:shB rows w=true↔Sh rows w:=@decide_eq_true_iff _ (Classical.propDecidable _)
inductive bU (ds:List D) (R:D→Prop):Prop
 | mk (rows:List Rw) (S:List Str) (w:List Int) (hh:ds=[.lst (rows.map rwD),.tup (w.map D.int)]∧S.length≤60∧(∀ r∈rows,RwOk S 60000 r)∧(∀ a∈w,ib a≤60000)∧R (.bl (shB rows w)))
theorem dL:∀ ds R,bU ds R→ds.length=2:=fun _ _ h_0=>by obtain ⟨_,_,_,e,_⟩:=h_0;rw [e];rfl
theorem aE:ax ["_law_rows","_law_weights","_law_sums","_law_bound","_law_strict","_law_row","_law_many","_law_name","_law_weight"] ["_law_rows","_law_weights"] (am s__law_weights_good):=⟨rfl,rfl,rfl,by decide +kernel,rfl,by decide +kernel,by decide +kernel⟩
theorem dW (F:Fd K mg "_law_weights_good" s__law_weights_good ["_law_rows","_law_weights"]) (dU:Cal P w K mg base 1 "_law_whole" ["_law_found"] (spD K (eg))) (cA:mg "len"=none) (aQ:mg "isinstance"=none) (aK:mg "tuple"=none) (eO:mg "zip"=none):Cal P w K mg base 2 "_law_weights_good" ["_law_rows","_law_weights"] (spD K bU):=by
 refine fn_D F aE dL fun fa cdv A outer s H E ds R hr h=>?_
 have hU:=hr.units
 refine⟨_,(ad (aR (DW.dt (jB (eX (cm (me j6 rfl aQ rfl aK cB (de_v 1)))) (eS (aH (jG hU) (ba h9 rfl cA gD (ac (de_v 1) af)) (ba h9 rfl cA gD (ac (de_v 0) af)) (aB _))))) (ag (av eh)) aD) (ad (kt 2 aE.nd) (ad (aA 3 aE.nd ae) (ad (aA 4 aE.nd eh) (ad (gR PassesOwn.never rfl (jT true false rfl eO (ac (de_v 0) (ac (de_v 1) af))) (bY (n:=2) rfl (aw (ap 5 aE.nd) (aw (ap 6 aE.nd) aZ))) (ad (aR (DW.dt (jB (eX (cm (aq dU (rm hr) rfl (ac (de_v 6) af)))) (eS (aH o_lt (de_v 6) ae (aB _))))) (ag (av eh)) aD) (ad (gB PassesOwn.never rfl (ar au (de_v 5) ae (fun _ _=>rfl)) (bY (n:=2) rfl (aw (ap 7 aE.nd) (aw (ap 8 aE.nd) aZ))) (ag (gC 2 hU (aC aS (rh 2 hU (de_v 7) ae) (aC bF (de_v 6) (de_v 8))) (de_v 7)))) (ad (aA 3 aE.nd (aC aS (de_v 3) (aC bF (de_v 6) (ar au (de_v 5) ae (fun _ _=>rfl))))) (ag (aA 4 aE.nd (qq (de_v 4) (cZ (gS (cN (o_eq hU) (ar au (de_v 5) ae (fun _ _=>rfl)) ay (aB _)) (cZ (cN o_gt (de_v 6) ae (aB _)))))))))))) (jm 2 (ad (aR (aH o_gt (ba h9 rfl cA gD (ac (cy ["_law_name"] [(2,"_law_sums")] rfl rfl (by decide +kernel) rfl (by decide +kernel) (bR ⟨rfl,trivial⟩) (bZ rfl) (bn ⟨⟨rfl,rfl,.inl rfl⟩,trivial⟩) (AN (de_v 2)) fun _ _ _ _ _=>⟨(ap 0 (show List.Nodup (["_law_name","_law_sums"]:List Str) by decide +kernel)),(gY (aH (jG hU) (dN hU (de_v 1) (de_v 0) (fun _ _=>rfl)) ae (aB _))),(de_v 0)⟩) af)) ae (aB _)) (ag (av eh)) aD) (ag (av (qq (cN o_gt (de_v 3) ae (aB _)) (cZ (gS (cN (o_eq hU) (de_v 3) ae (aB _)) (cZ (de_v 4)))))))))))))),?_⟩
 obtain ⟨rows,S,w,rfl,hS,hr,hw,q⟩:=h
 refine ak fun K1 hK1=>?_
 walk_at "rd"
 rw [CK,CK]
 refine ite2 (fun hl=>?_) fun hl=>?_
 ·have e:shB rows w=false:=Bool.eq_false_iff.mpr fun z=>hl (by rw [(mX.mp z).1])
  rw [e] at q
  exact q
 have hl:w.length=rows.length:=by have:=Decidable.not_not.mp hl;omega
 rw [hK1]
 refine ak fun K2 hK2=>?_
 walk_at "rd"
 intro da
 rw [hK2]
 refine ak fun K3 hK3=>?_
 walk_at "rd"
 rw [hK3]
 refine ak fun K4 hK4=>?_
 walk_at "rd"
 rw [hK4]
 refine ak fun K5 hK5=>?_
 refine d5 fun B N hB hN=>?_
 simp only [kP]
 walk_at "rd"
 rw [oP]
 have hl1:∀ p∈rows.zip w,RwOk S 60000 p.1∧ib p.2≤60000:=fun p hp=>⟨hr _ (Di hp).1,hw _ (Di hp).2⟩
 have hlw:∀ p∈rows.zip w,p.2∈w:=fun p hp=>(Di hp).2
 have hww:∀ a∈w,∃ p∈rows.zip w,p.2=a:=fun a ha=>by
  obtain ⟨i,hi⟩:=List.getElem?_of_mem ha
  have hiw:=(CY.mp hi).1
  refine⟨(rows[i]'(by omega),a),C1 (i:=i) ?_,rfl⟩
  rw [List.getElem?_zip_eq_some]
  exact⟨Dk (by omega),hi⟩
 have dec:∀ b:Bool,(b=true↔Sh rows w)→R (.bl b):=fun b hb=>by
  rw [Bool.eq_iff_iff.mpr (hb.trans mX.symm)]
  exact q
 have shl:Sh rows w↔(∀ p∈rows.zip w,0≤p.2)∧(∀ n,cfs (rows.zip w) n=0)∧(0 < bds (rows.zip w)∨(bds (rows.zip w)=0∧stc (rows.zip w)=true)):=by
  constructor
  ·rintro ⟨_,h1,h2,h3⟩
   exact⟨fun p hp=>h1 _ (hlw p hp),h2,h3⟩
  ·rintro ⟨h1,h2,h3⟩
   exact⟨hl,fun a ha=>by obtain ⟨p,hp,rfl⟩:=hww a ha;exact h1 p hp,h2,h3⟩
 rw [shl] at dec
 clear q shl hww hlw
 generalize rows.zip w=l at *
 refine⟨fun i δ=>∃ ks u v w' z,δ=[.dat (.lst (rows.map rwD)),.dat (.tup (w.map D.int)),.own da (.dct ks (ks.map fun n=>.int (cfs (l.take i) n))),.dat (.int (bds (l.take i))),.dat (.bl (stc (l.take i))),u,v,w',z]∧ks.Nodup∧(∀ n∈ks,n∈S)∧(∀ n,n∉ks→cfs (l.take i) n=0)∧∀ p∈l.take i,0≤p.2,
  ⟨[],_,_,_,_,rfl,List.nodup_nil,(fun n h=>nomatch h),(fun n h=>rfl),fun p hp=>by simp at hp⟩,?_,?_⟩
 ·rintro i d δ hd ⟨ks,u,v,w',z,rfl,nd,hs,h0,hp0⟩
  rw [C0] at hd
  cases hn:l[i]? with
  | none=>rw [hn] at hd;cases hd
  | some p =>
   rw [hn] at hd
   cases hd
   obtain ⟨⟨k,ts,b⟩,c⟩:=p
   have hpm:=C1 hn
   obtain ⟨ok,bc⟩:=hl1 _ hpm
   have htk:=aF hn
   rw [hB]
   show kT _ _ (.tup [.tup [.str (kdS k),.tup (ts.map tmD),.int b],.int c]) _ _
   refine cD fun K6 hK6=>?_
   walk_at "rd"
   refine⟨c,rfl,true,rfl,ifn (by decide) (ite2 (fun hc=>?_) fun hc=>?_)⟩
   ·exact dec false ⟨(fun z=>nomatch z),fun z=>absurd (z.1 _ hpm) (by show ¬ 0≤c;omega)⟩
   rw [hK6]
   refine ak fun K7 hK7=>?_
   simp only [n9]
   walk_at "rd"
   refine⟨fun j δ=>∃ ks w' z,δ=[.dat (.lst (rows.map rwD)),.dat (.tup (w.map D.int)),.own da (.dct ks (ks.map fun n=>.int (cfs (l.take i) n + c * cf (ts.take j) n))),.dat (.int (bds (l.take i))),.dat (.bl (stc (l.take i))),.dat (.tup [.str (kdS k),.tup (ts.map tmD),.int b]),.dat (.int c),w',z]∧ks.Nodup∧(∀ n∈ks,n∈S)∧∀ n,n∉ks→cfs (l.take i) n + c * cf (ts.take j) n=0,
    ⟨ks,w',z,by simp only [List.take_zero,cf,Int.mul_zero,Int.add_zero],nd,hs,fun n hn=>by rw [h0 n hn,List.take_zero];show 0 + c * 0=0;omega⟩,?_,?_⟩
   ·rintro j d δ hd ⟨ks,w',z,rfl,nd,hs,h0⟩
    obtain ⟨t,ht,rfl⟩:=dG hd
    have htm:=C1 ht
    have hj:=aF ht
    walk_at "rd"
    rw [pX (h0 t.1)]
    refine⟨mo2 bc (ok.bw t htm),by have:=hZ nd hs;omega,?_,nD nd,fun n hn=>?_,fun n hn=>?_⟩
    ·have e:∀ n,cfs (l.take i) n + c * cf (ts.take (j + 1)) n=(cfs (l.take i) n + c * cf (ts.take j) n) + c * (if t.1=n then t.2 else 0):=fun n=>by
      rw [hj,lM,Int.mul_add]
      show _ + (_ + c * ((if t.1=n then t.2 else 0) + 0))=_
      rw [Int.add_zero,Int.add_assoc]
     have:=rL (ks:=ks) (x:=t.1) (f:=fun n=>D.int (cfs (l.take i) n + c * cf (ts.take j) n)) (g:=fun n=>D.int (cfs (l.take i) n + c * cf (ts.take (j + 1)) n)) (fun n hn=>by rw [e,if_neg (fun z=>hn z.symm),Int.mul_zero,Int.add_zero])
     rw [← this,e,if_pos rfl]
    ·rcases ir.mp hn with h | h
     ·exact hs n h
     ·rw [h];exact ok.sub t htm
    ·rw [ir,not_or] at hn
     rw [hj,lM,Int.mul_add,← Int.add_assoc,h0 n hn.1]
     show 0 + c * ((if t.1=n then t.2 else 0) + 0)=0
     rw [if_neg (fun z=>hn.2 z.symm)];omega
   ·rintro δ ⟨ks,w',z,rfl,nd,hs,h0⟩
    have e1:ts.take (ts.map tmD).length=ts:=by rw [CK,C4]
    rw [e1] at h0 ⊢
    rw [hK7]
    walk_at "rd"
    have e2:∀ n,cfs (l.take (i + 1)) n=cfs (l.take i) n + c * cf ts n:=fun n=>by
     rw [htk,mY]
     show _ + (c * cf ts n + 0)=_
     rw [Int.add_zero]
    have e3:bds (l.take (i + 1))=bds (l.take i) + c * b:=by
     rw [htk,ny]
     show _=_ + c * b
     show _ + (c * b + 0)=_
     rw [Int.add_zero]
    have e4:stc (l.take (i + 1))=(stc (l.take i) || (isM k && decide (0 < c))):=by rw [htk,ol,nE]
    have e5:∀ p∈l.take (i + 1),0≤p.2:=fun p hp=>by
     rw [htk] at hp
     rcases CV.mp hp with h | h
     ·exact hp0 p h
     ·rw [C2.mp h];show 0≤c;omega
    simp only [e2,e3,e4]
    refine⟨mo2 bc ok.bb,ite2 (fun h1=>⟨trivial,trivial,?_,nd,hs,h0,e5⟩) fun h1=>ite2 (fun h2=>⟨trivial,trivial,?_,nd,hs,h0,e5⟩) fun h2=>⟨trivial,trivial,?_,nd,hs,h0,e5⟩⟩
    ·rw [h1];rfl
    ·have:isM k=true:=by cases k with | least=>exact absurd h2 (by decide) | more=>rfl
     rw [Bool.eq_false_iff.mpr h1,this];rfl
    ·have:isM k=false:=by cases k with | least=>rfl | more=>exact absurd rfl h2
     rw [Bool.eq_false_iff.mpr h1,this];rfl
 ·rintro δ ⟨ks,u,v,w',z,rfl,nd,hs,h0,hp0⟩
  rw [CK,C4] at h0 hp0 ⊢
  rw [hN,hK5]
  walk_at "rd"
  have hk:=hZ nd hs
  refine⟨_,_,rfl,by rw [CK];omega,fun d=>match d with | .str n=>if cfs l n≠0 then some (.str n) else none | _=>none,fun x hx=>?_,?_⟩
  ·obtain ⟨n,hn,rfl⟩:=CM.mp hx
   walk_at "rd"
   refine⟨_,cR (fun n=>D.int (cfs l n)) hn,?_⟩
   walk_at "rd"
   refine ite2 (fun hz=>?_) fun hz=>?_
   ·rw [if_pos hz]
   ·rw [if_neg hz]
  ·have e:∀ ks:List Str,(0 < ((ks.map D.str).filterMap (fun d=>match d with | .str n=>if cfs l n≠0 then some (D.str n) else none | _=>none)).length)↔∃ n∈ks,cfs l n≠0:=fun ks=>by
    rw [List.length_pos_iff_exists_mem]
    constructor
    ·rintro ⟨d,hd⟩
     obtain ⟨x,hx,e⟩:=List.mem_filterMap.mp hd
     obtain ⟨n,hn,rfl⟩:=CM.mp hx
     refine⟨n,hn,fun z=>?_⟩
     simp only [z,ne_eq,not_true_eq_false,if_false,reduceCtorEq] at e
    ·rintro ⟨n,hn,z⟩
     exact⟨.str n,List.mem_filterMap.mpr ⟨.str n,CM.mpr ⟨n,hn,rfl⟩,by simp only;rw [if_pos z]⟩⟩
   refine ite2 (fun hz=>?_) fun hz=>?_
   ·obtain ⟨n,_,z⟩:=(e ks).mp (by omega)
    exact dec false ⟨(fun z=>nomatch z),fun y=>absurd (y.2.1 n) z⟩
   have all:∀ n,cfs l n=0:=fun n=>by
    by_cases hn:n∈ks
    ·exact CS fun z=>hz (by have:=(e ks).mpr ⟨n,hn,z⟩;omega)
    ·exact h0 n hn
   refine ite2 (fun h1=>dec true ⟨fun _=>⟨hp0,all,.inl h1⟩,fun _=>rfl⟩) fun h1=>ite2 (fun h2=>dec _ ⟨fun z=>⟨hp0,all,.inr ⟨h2,z⟩⟩,fun z=>?_⟩) fun h2=>dec false ⟨(fun z=>nomatch z),fun z=>?_⟩
   ·rcases z.2.2 with y | y
    ·exact absurd y h1
    ·exact y.2
   ·rcases z.2.2 with y | y
    ·exact absurd y h1
    ·exact absurd y.1 h2
abbrev Ppr:=List (List (List Int))
def ppD (P:Ppr):D:=.tup (P.map fun l=>.tup (l.map fun w=>.tup (w.map D.int)))
noncomputable def lnB (c:List Rw) (B:List (List Rw)) (l:List (List Int)):Bool:=decide (l.length=B.length) && (B.zip l).all fun p=>shB (c++p.1) p.2
noncomputable def ppB (A B:List (List Rw)) (P:Ppr):Bool:=decide (P.length=A.length) && (A.zip P).all fun p=>lnB p.1 B p.2
inductive cw (ds:List D) (R:D→Prop):Prop
 | mk (a b:Say) (S:List Str) (P:Ppr) (hh:ds=[a.D,b.D,ppD P]∧a.dep≤50∧b.dep≤50∧a.ok S∧b.ok S∧S.length≤60∧(a.pl false).num≤4∧(a.pl false).long≤3∧(b.pl false).num≤4∧(b.pl false).long≤3∧(∀ l∈P,∀ w∈l,∀ z∈w,ib z≤60000)∧R (.bl (ppB (a.pl false).kr (b.pl false).kr P)))
theorem dX:∀ ds R,cw ds R→ds.length=3:=fun _ _ h_0=>by obtain ⟨_,_,_,_,e,_⟩:=h_0;rw [e];rfl
theorem nq {S:List Str}:∀ {s:Say},s.ok S→s.bt 10000
 | .row _ _ _,o=>⟨o.1.bits,o.2⟩
 | .nt s,o=>nq (s:=s) o
 | .bo s t,o=>⟨nq o.1,nq o.2⟩
 | .ei s t,o=>⟨nq o.1,nq o.2⟩
theorem zR {A:List (List Rw)} {P:Ppr}:zipD (A.map fun c=>.lst (c.map rwD)) (P.map fun l=>.tup (l.map fun w=>.tup (w.map D.int)))=(A.zip P).map fun p=>D.tup [.lst (p.1.map rwD),.tup (p.2.map fun w=>.tup (w.map D.int))]:=by
 unfold zipD
 rw [List.zipWith_map,List.zip,List.map_zipWith]
theorem BF {B:List (List Rw)} {l:List (List Int)}:zipD (B.map fun c=>.lst (c.map rwD)) (l.map fun w=>.tup (w.map D.int))=(B.zip l).map fun p=>D.tup [.lst (p.1.map rwD),.tup (p.2.map D.int)]:=by
 unfold zipD
 rw [List.zipWith_map,List.zip,List.map_zipWith]
theorem pU {α:Type} {p:α→Bool} {l:List α} {i:Nat} {x:α} (h:l[i]?=some x) (hf:p x=false):l.all p=false:=by
 refine Bool.eq_false_iff.mpr fun z=>?_
 have:=List.all_eq_true.mp z x (C1 h)
 rw [hf] at this;cases this
theorem aM:ax ["_law_one","_law_other","_law_paper","_law_ones","_law_others","_law_first","_law_line_here","_law_second","_law_weights"] ["_law_one","_law_other","_law_paper"] (am s__law_paper_good):=⟨rfl,rfl,rfl,by decide +kernel,rfl,by decide +kernel,by decide +kernel⟩
theorem fF (F:Fd K mg "_law_paper_good" s__law_paper_good ["_law_one","_law_other","_law_paper"]) (aW:Cal P w K mg base 61 "_law_cases" ["_law_saying","_law_so_here"] (spD K (bA 60))) (bV:Cal P w K mg base 2 "_law_weights_good" ["_law_rows","_law_weights"] (spD K (bU))) (cA:mg "len"=none) (aQ:mg "isinstance"=none) (aK:mg "tuple"=none) (eO:mg "zip"=none):Cal P w K mg base 62 "_law_paper_good" ["_law_one","_law_other","_law_paper"] (spD K cw):=by
 refine fn_D F aM dX fun fa cdv A outer s H E ds R hr h=>?_
 have hU:=hr.units
 refine⟨_,(ad (aA 3 aM.nd (aq aW (rm hr) rfl (ac (de_v 0) (ac eh af)))) (ad (aA 4 aM.nd (aq aW (rm hr) rfl (ac (de_v 1) (ac eh af)))) (ad (aR (DW.dt (jB (eX (cm (me j6 rfl aQ rfl aK cB (de_v 2)))) (eS (aH (jG hU) (ba h9 rfl cA gD (ac (de_v 2) af)) (ba h9 rfl cA gD (ac (de_v 3) af)) (aB _))))) (ag (av eh)) aD) (ad (gR PassesOwn.never rfl (jT true false rfl eO (ac (de_v 3) (ac (de_v 2) af))) (bY (n:=2) rfl (aw (ap 5 aM.nd) (aw (ap 6 aM.nd) aZ))) (ad (aR (DW.dt (jB (eX (cm (me j6 rfl aQ rfl aK cB (de_v 6)))) (eS (aH (jG hU) (ba h9 rfl cA gD (ac (de_v 6) af)) (ba h9 rfl cA gD (ac (de_v 4) af)) (aB _))))) (ag (av eh)) aD) (ag (gR PassesOwn.never rfl (jT true false rfl eO (ac (de_v 4) (ac (de_v 6) af))) (bY (n:=2) rfl (aw (ap 7 aM.nd) (aw (ap 8 aM.nd) aZ))) (ag (aR (eX (cm (aq bV (rm hr) rfl (ac (aC aS (de_v 5) (de_v 7)) (ac (de_v 8) af))))) (ag (av eh)) aD)))))) (ag (av eh)))))),?_⟩
 obtain ⟨a,b,S,P,rfl,da,db,oa,ob,hS,na,la,nb,lb,hw,q⟩:=h
 refine ak fun K1 hK1=>?_
 walk_at "rd"
 refine⟨a,true,S,rfl,by omega,oa,hS,na,la,?_⟩
 rw [hK1]
 refine ak fun K2 hK2=>?_
 walk_at "rd"
 refine⟨b,true,S,rfl,by omega,ob,hS,nb,lb,?_⟩
 rw [hK2]
 show dSeq _ _ _ [.dat a.D,.dat b.D,.dat (ppD P),.dat (krD (a.pl false).kr),.dat (krD (b.pl false).kr),.no,.no,.no,.no]
 have ra:=fun c hc r hr=>Say.kr_row (B:=10000) (Say.pl_ok (t:=false) oa) (Say.pl_bt (nq oa)) c hc r hr
 have rb:=fun c hc r hr=>Say.kr_row (B:=10000) (Say.pl_ok (t:=false) ob) (Say.pl_bt (nq ob)) c hc r hr
 have ga:∀ c∈(a.pl false).kr,c.length≤3:=fun c hc=>CN (Say.kr_long Say.pl_pn hc) la
 have gb:∀ c∈(b.pl false).kr,c.length≤3:=fun c hc=>CN (Say.kr_long Say.pl_pn hc) lb
 generalize (a.pl false).kr=A at *
 generalize (b.pl false).kr=B at *
 unfold ppD krD
 refine ak fun K3 hK3=>?_
 walk_at "rd"
 rw [CK,CK]
 refine ite2 (fun hl=>?_) fun hl=>?_
 ·have e:ppB A B P=false:=by unfold ppB;rw [decide_eq_false (by omega)];rfl
  rw [e] at q
  exact q
 have hl:P.length=A.length:=by have:=Decidable.not_not.mp hl;omega
 rw [hK3]
 refine ak fun K4 hK4=>?_
 refine d5 fun F N hF hN=>?_
 simp only [kP]
 walk_at "rd"
 rw [zR]
 have hq:R (.bl ((A.zip P).all fun p=>lnB p.1 B p.2)):=by
  unfold ppB at q
  rw [decide_eq_true hl,Bool.true_and] at q
  exact q
 have hz1:∀ p∈A.zip P,p.1∈A∧p.2∈P:=fun p hp=>⟨(Di hp).1,(Di hp).2⟩
 clear q
 generalize hL:A.zip P=L at *
 refine⟨fun i δ=>∃ x y z u,δ=[.dat a.D,.dat b.D,.dat (.tup (P.map fun l=>.tup (l.map fun w=>.tup (w.map D.int)))),.dat (.lst (A.map fun c=>.lst (c.map rwD))),.dat (.lst (B.map fun c=>.lst (c.map rwD))),x,y,z,u]∧∀ p∈L.take i,lnB p.1 B p.2=true,⟨_,_,_,_,rfl,fun p hp=>by simp at hp⟩,?_,?_⟩
 ·rintro i d δ hd ⟨x,y,z,u,rfl,ho⟩
  rw [C0] at hd
  cases hn:L[i]? with
  | none=>rw [hn] at hd;cases hd
  | some p =>
   rw [hn] at hd
   cases hd
   obtain ⟨c,l⟩:=p
   have hpm:=C1 hn
   obtain ⟨m1,m2⟩:=hz1 _ hpm
   have fail:lnB c B l=false→R (.bl false):=fun e=>by
    rw [pU (p:=fun p=>lnB p.1 B p.2) hn e] at hq
    exact hq
   rw [hF]
   show kT _ _ (.tup [.lst (c.map rwD),.tup (l.map fun w=>.tup (w.map D.int))]) _ _
   refine cD fun K5 hK5=>?_
   walk_at "rd"
   rw [CK,CK]
   refine ite2 (fun h1=>fail ?_) fun h1=>?_
   ·unfold lnB;rw [decide_eq_false (by omega)];rfl
   have h1:l.length=B.length:=by have:=Decidable.not_not.mp h1;omega
   rw [hK5]
   refine d5 fun F2 N2 hF2 hN2=>?_
   simp only [kP]
   walk_at "rd"
   rw [BF]
   have el:lnB c B l=(B.zip l).all fun p=>shB (c++p.1) p.2:=by unfold lnB;rw [decide_eq_true h1,Bool.true_and]
   have hz2:∀ p∈B.zip l,p.1∈B∧p.2∈l:=fun p hp=>⟨(Di hp).1,(Di hp).2⟩
   generalize hL2:B.zip l=L2 at *
   refine⟨fun j δ=>∃ z u,δ=[.dat a.D,.dat b.D,.dat (.tup (P.map fun l=>.tup (l.map fun w=>.tup (w.map D.int)))),.dat (.lst (A.map fun c=>.lst (c.map rwD))),.dat (.lst (B.map fun c=>.lst (c.map rwD))),.dat (.lst (c.map rwD)),.dat (.tup (l.map fun w=>.tup (w.map D.int))),z,u]∧∀ p∈L2.take j,shB (c++p.1) p.2=true,⟨_,_,rfl,fun p hp=>by simp at hp⟩,?_,?_⟩
   ·rintro j d δ hd ⟨z,u,rfl,ho2⟩
    rw [C0] at hd
    cases hn2:L2[j]? with
    | none=>rw [hn2] at hd;cases hd
    | some p =>
     rw [hn2] at hd
     cases hd
     obtain ⟨d,w⟩:=p
     have hpm2:=C1 hn2
     obtain ⟨m3,m4⟩:=hz2 _ hpm2
     have l1:=ga c m1
     have l2:=gb d m3
     rw [hF2]
     show kT _ _ (.tup [.lst (d.map rwD),.tup (w.map D.int)]) _ _
     walk_at "rd"
     rw [← C3]
     refine⟨by rw [CK,CK];omega,c++d,S,w,rfl,hS,fun r hr=>?_,hw l m2 w m4,?_⟩
     ·rcases CV.mp hr with hr | hr
      ·obtain ⟨t1,t2,t3,_⟩:=ra c m1 r hr
       exact⟨fun t ht=>t1.sub.subset (CM.mpr ⟨t,ht,rfl⟩),fun t ht=>CN (t2 t ht) (by decide),CN t3 (by decide)⟩
      ·obtain ⟨t1,t2,t3,_⟩:=rb d m3 r hr
       exact⟨fun t ht=>t1.sub.subset (CM.mpr ⟨t,ht,rfl⟩),fun t ht=>CN (t2 t ht) (by decide),CN t3 (by decide)⟩
     ·refine⟨_,rfl,?_⟩
      cases es:shB (c++d) w with
      | false =>
       refine ifp rfl (fail ?_)
       rw [el]
       exact pU (p:=fun p=>shB (c++p.1) p.2) hn2 es
      | true =>
       refine ifn (by decide) fun p hp=>?_
       rw [aF hn2] at hp
       rcases CV.mp hp with z | z
       ·exact ho2 p z
       ·rw [C2.mp z];exact es
   ·rintro δ ⟨z,u,rfl,ho2⟩
    rw [CK,C4] at ho2
    rw [hN2]
    refine⟨_,_,_,_,rfl,fun p hp=>?_⟩
    rw [aF hn] at hp
    rcases CV.mp hp with z | z
    ·exact ho p z
    ·rw [C2.mp z,el];exact List.all_eq_true.mpr ho2
 ·rintro δ ⟨x,y,z,u,rfl,ho⟩
  rw [CK,C4] at ho
  rw [hN,hK4]
  walk_at "rd"
  rw [List.all_eq_true.mpr ho] at hq
  exact hq
theorem ff {α β:Type} {g:α→β}:∀ {l:List α} {p:α×β},p∈l.zip (l.map g)→p.1∈l∧p.2=g p.1
 | x :: l,p,h=>by
  rw [List.map_cons,List.zip_cons_cons] at h
  rcases CQ.mp h with rfl | h
  ·exact⟨CP ..,rfl⟩
  ·obtain ⟨h1,h2⟩:=ff h
   exact⟨CL _ h1,h2⟩
def ppW (nm:List Str) (A B:List (List Rw)):Ppr:=A.map fun c=>B.map fun d=>wOf nm (c++d)
theorem Cq {nm:List Str} {A B:List (List Rw)}:ppD (ppW nm A B)=.tup (A.map fun c=>.tup (B.map fun d=>.tup ((wOf nm (c++d)).map D.int))):=by
 unfold ppD ppW
 rw [List.map_map]
 congr 2
 funext c
 show D.tup ((B.map fun d=>wOf nm (c++d)).map _)=_
 rw [List.map_map];rfl
theorem Bf {nm:List Str} {A B:List (List Rw)} (h:∀ c∈A,∀ d∈B,mi (c++d) (wOf nm (c++d))):ppB A B (ppW nm A B)=true:=by
 unfold ppB ppW
 rw [Dh]
 refine⟨by rw [CK];exact decide_eq_true rfl,List.all_eq_true.mpr fun p hp=>?_⟩
 obtain ⟨h1,h2⟩:=ff hp
 unfold lnB
 rw [h2,Dh]
 refine⟨by rw [CK];exact decide_eq_true rfl,List.all_eq_true.mpr fun p' hp'=>?_⟩
 obtain ⟨h3,h4⟩:=ff hp'
 rw [h4]
 exact mX.mpr (h _ h1 _ h3).sh
theorem uw {nm:List Str} {A B:List (List Rw)} {n:Nat} (h:∀ c∈A,∀ d∈B,∀ z∈wOf nm (c++d),ib z≤n):∀ l∈ppW nm A B,∀ w∈l,∀ z∈w,ib z≤n:=fun l hl w hw z hz=>by
 obtain ⟨c,hc,rfl⟩:=CM.mp hl
 obtain ⟨d,hd,rfl⟩:=CM.mp hw
 exact h c hc d hd z hz
def lkT (n:Int) (ts:List (Str×Int)):List (Str×Int):=ts.map fun t=>(t.1,n * t.2)
def Say.lk:Say→Say→Prop
 | .row k ts b,.row k' ts' b'=>k'=k∧∃ n:Int,1≤n∧n≤1000000000∧ts'=lkT n ts∧b'=n * b
 | .nt s,.nt s'=>s.lk s'
 | .bo s t,.bo s' t'=>s.lk s'∧t.lk t'
 | .ei s t,.ei s' t'=>s.lk s'∧t.lk t'
 | _,_=>False
theorem rj (n:Int) (ts:List (Str×Int)):(lkT n ts).map (·.1)=ts.map (·.1):=by unfold lkT;rw [List.map_map];rfl
theorem Say.lk_dep:∀ {s s':Say},s.lk s'→s'.dep=s.dep
 | .row _ _ _,.row _ _ _,_=>rfl
 | .nt s,.nt s',h=>by show s'.dep + 1=s.dep + 1;rw [Say.lk_dep (s:=s) (s':=s') h]
 | .bo s t,.bo s' t',h=>by show max s'.dep t'.dep + 1=max s.dep t.dep + 1;rw [Say.lk_dep h.1,Say.lk_dep h.2]
 | .ei s t,.ei s' t',h=>by show max s'.dep t'.dep + 1=max s.dep t.dep + 1;rw [Say.lk_dep h.1,Say.lk_dep h.2]
theorem Say.lk_few:∀ {s s':Say} (u:Bool),s.lk s'→(s'.pl u).num=(s.pl u).num∧(s'.pl u).long=(s.pl u).long
 | .row _ _ _,.row _ _ _,u,_=>by cases u<;>exact⟨rfl,rfl⟩
 | .nt s,.nt s',u,h=>Say.lk_few (s:=s) (s':=s') (!u) h
 | .bo s t,.bo s' t',u,h=>by
  obtain ⟨a,b⟩:=Say.lk_few u h.1
  obtain ⟨c,d⟩:=Say.lk_few u h.2
  cases u
  ·show (s'.pl false).num * (t'.pl false).num=(s.pl false).num * (t.pl false).num∧(s'.pl false).long + (t'.pl false).long=(s.pl false).long + (t.pl false).long
   rw [a,b,c,d];exact⟨rfl,rfl⟩
  ·show (s'.pl true).num + (t'.pl true).num=(s.pl true).num + (t.pl true).num∧max (s'.pl true).long (t'.pl true).long=max (s.pl true).long (t.pl true).long
   rw [a,b,c,d];exact⟨rfl,rfl⟩
 | .ei s t,.ei s' t',u,h=>by
  obtain ⟨a,b⟩:=Say.lk_few u h.1
  obtain ⟨c,d⟩:=Say.lk_few u h.2
  cases u
  ·show (s'.pl false).num + (t'.pl false).num=(s.pl false).num + (t.pl false).num∧max (s'.pl false).long (t'.pl false).long=max (s.pl false).long (t.pl false).long
   rw [a,b,c,d];exact⟨rfl,rfl⟩
  ·show (s'.pl true).num * (t'.pl true).num=(s.pl true).num * (t.pl true).num∧(s'.pl true).long + (t'.pl true).long=(s.pl true).long + (t.pl true).long
   rw [a,b,c,d];exact⟨rfl,rfl⟩
theorem ix {n x:Int} {B:Nat} (h1:1≤n) (h2:n≤1000000000) (h:ib x≤B):ib (n * x)≤30 + B :=
 intBits_mul_le (intBits_le_iff.mpr (by rw [show (2:Nat) ^ 30=1073741824 by decide +kernel];omega)) h
theorem Say.lk_bt {B:Nat}:∀ {s s':Say},s.lk s'→s.bt B→s'.bt (30 + B)
 | .row _ _ _,.row _ _ _,⟨_,n,h1,h2,e,e2⟩,h=>by
  subst e e2
  refine⟨fun t ht=>?_,ix h1 h2 h.2⟩
  obtain ⟨u,hu,rfl⟩:=CM.mp ht
  exact ix h1 h2 (h.1 u hu)
 | .nt s,.nt s',h,o=>Say.lk_bt (s:=s) (s':=s') h o
 | .bo s t,.bo s' t',h,o=>⟨Say.lk_bt h.1 o.1,Say.lk_bt h.2 o.2⟩
 | .ei s t,.ei s' t',h,o=>⟨Say.lk_bt h.1 o.1,Say.lk_bt h.2 o.2⟩
theorem Say.lk_ok {S:List Str}:∀ {s s':Say},s.lk s'→s.ok S→s.bt 34→s'.ok S
 | .row _ _ _,.row _ _ _,⟨_,n,h1,h2,e,e2⟩,h,b=>by
  subst e e2
  refine⟨⟨by rw [rj];exact h.1.sub,fun t ht=>?_,fun t ht=>?_⟩,CN (ix h1 h2 b.2) (by decide)⟩
  ·obtain ⟨u,hu,rfl⟩:=CM.mp ht
   exact Int.mul_ne_zero (by omega) (h.1.nz u hu)
  ·obtain ⟨u,hu,rfl⟩:=CM.mp ht
   exact CN (ix h1 h2 (b.1 u hu)) (by decide)
 | .nt s,.nt s',h,o,b=>Say.lk_ok (s:=s) (s':=s') h o b
 | .bo s t,.bo s' t',h,o,b=>⟨Say.lk_ok h.1 o.1 b.1,Say.lk_ok h.2 o.2 b.2⟩
 | .ei s t,.ei s' t',h,o,b=>⟨Say.lk_ok h.1 o.1 b.1,Say.lk_ok h.2 o.2 b.2⟩
theorem nc {x:Str→Rat} {n:Int}:∀ {ts:List (Str×Int)},sumR x (lkT n ts)=(n:Rat) * sumR x ts
 | []=>by show (0:Rat)=(n:Rat) * 0;grind
 | t :: ts=>by
  show ((n * t.2:Int):Rat) * x t.1 + sumR x (lkT n ts)=(n:Rat) * ((t.2:Rat) * x t.1 + sumR x ts)
  rw [nc,Df];grind
theorem Say.lk_sx {x:Str→Rat}:∀ {s s':Say},s.lk s'→(s'.sx x↔s.sx x)
 | .row k ts b,.row k' ts' b',⟨e0,n,h1,_,e,e2⟩=>by
  rw [e0,e,e2]
  clear e0 e e2
  have n0:=fT (show 0 < n by omega)
  have e1:((n * b:Int):Rat)=(n:Rat) * (b:Rat):=Df ..
  cases k with
  | least =>
   show ((n * b:Int):Rat)≤sumR x (lkT n ts)↔(b:Rat)≤sumR x ts
   rw [nc,e1]
   exact rG n0
  | more =>
   show ((n * b:Int):Rat) < sumR x (lkT n ts)↔(b:Rat) < sumR x ts
   rw [nc,e1]
   exact Rat.mul_lt_mul_left n0
 | .nt s,.nt s',h=>by show ¬ s'.sx x↔¬ s.sx x;rw [Say.lk_sx (s:=s) (s':=s') h]
 | .bo s t,.bo s' t',h=>by show (s'.sx x∧t'.sx x)↔_;rw [Say.lk_sx h.1,Say.lk_sx h.2];rfl
 | .ei s t,.ei s' t',h=>by show (s'.sx x∨t'.sx x)↔_;rw [Say.lk_sx h.1,Say.lk_sx h.2];rfl
inductive bv (n:Nat) (ds:List D) (R:D→Prop):Prop
 | mk (s:Say) (cs:List Int) (names:List Str) (hh:ds=[s.D,.lst (cs.map D.int)]∧s.dep≤n∧s.ok names∧names.length≤60∧cs.length=6∧s.bt 60000∧(∀ c∈cs,ib c≤1048600)∧∀ s':Say,s.lk s'→R s'.D)
theorem ie (n:Nat):∀ ds R,bv n ds R→ds.length=2:=fun _ _ h_0=>by obtain ⟨_,_,_,e,_⟩:=h_0;rw [e];rfl
theorem gz:∀ ds R,¬ bv 0 ds R:=fun _ _ h_0=>by obtain ⟨s,_,_,_,h,_⟩:=h_0;have:=s.dep_pos;omega
theorem fZ:ax ["_law_saying","_law_cells","_law_often"] ["_law_saying","_law_cells"] (am s__law_times):=⟨rfl,rfl,rfl,by decide +kernel,rfl,by decide +kernel,by decide +kernel⟩
theorem jp (F:Fd K mg "_law_times" s__law_times ["_law_saying","_law_cells"]) (aK:mg "tuple"=none) {n:Nat} (bf:Cal P w K mg base (1 + n) "_law_times" ["_law_saying","_law_cells"] (spD K (bv n))):Cal P w K mg base (1 + n + 1) "_law_times" ["_law_saying","_law_cells"] (spD K (bv (n + 1))):=by
 refine fn_D (k:=1 + n) F fZ (ie (n + 1)) fun fa cdv A outer s H E ds R hr h=>?_
 have hU:=hr.units
 refine⟨_,(ad (aR (aH (o_eq hU) (ar au (de_v 0) ae (fun _ _=>rfl)) ay (aB _)) (ag (av (aG (ac ay (ac (aq bf (hr.mono (by omega)) rfl (ac (ar au (de_v 0) ae (fun _ _=>rfl)) (ac (de_v 1) af))) af))))) aD) (ad (aR (DW.dt (jB (aH (o_eq hU) (ar au (de_v 0) ae (fun _ _=>rfl)) ay (aB _)) (eS (aH (o_eq hU) (ar au (de_v 0) ae (fun _ _=>rfl)) ay (aB _))))) (ag (av (aG (ac (ar au (de_v 0) ae (fun _ _=>rfl)) (ac (aq bf (hr.mono (by omega)) rfl (ac (ar au (de_v 0) ae (fun _ _=>rfl)) (ac (de_v 1) af))) (ac (aq bf (hr.mono (by omega)) rfl (ac (ar au (de_v 0) ae (fun _ _=>rfl)) (ac (aC aS (jW (de_v 1) (fg ae) jg) (jW (de_v 1) jg (fg ae))) af))) af)))))) aD) (ad (aA 2 fZ.nd (aC aS ae (aC gN (ar au (de_v 1) ae (fun _ _=>rfl)) (aC xl ae ae)))) (ag (av (aG (ac (ar au (de_v 0) ae (fun _ _=>rfl)) (ac (cF fe rfl aK cB (ac (cy ["_law_name","_law_weight"] [(2,"_law_often")] rfl rfl (by decide +kernel) rfl (by decide +kernel) (bR ⟨rfl,trivial⟩) (bZ rfl) (bn ⟨⟨rfl,rfl,.inl rfl⟩,trivial⟩) (lH (ar au (de_v 0) ae (fun _ _=>rfl))) fun _ _ _ _ _=>⟨(bY (n:=2) rfl (aw (ap 0 (show List.Nodup (["_law_name","_law_weight","_law_often"]:List Str) by decide +kernel)) (aw (ap 1 (show List.Nodup (["_law_name","_law_weight","_law_often"]:List Str) by decide +kernel)) aZ))),dQ,(aG (ac (de_v 0) (ac (aC bF (de_v 2) (de_v 1)) af)))⟩) af)) (ac (aC bF (de_v 2) (ar au (de_v 0) ae (fun _ _=>rfl))) af))))))))),?_⟩
 obtain ⟨s,cs,names,rfl,hd,ok,nl,h6,hb,hcb,q⟩:=h
 have rot:cut (cs.map D.int) (some 1) none++cut (cs.map D.int) none (some 1)=(cs.drop 1++cs.take 1).map D.int:=by
  rw [cut1 _ (by rw [CK];omega),show (1:Int)=((1:Nat):Int) from rfl,wI,C3,List.map_drop,List.map_take]
 have rotl:(cut (cs.map D.int) (some 1) none).length + (cut (cs.map D.int) none (some 1)).length≤9000:=by
  rw [← CW,rot,CK,CW,List.length_drop,De];omega
 cases s with
 | row k ts b =>
  unfold Say.D rowD
  have k1:kdS k≠"not":=by cases k<;>decide
  have k2:kdS k≠"both":=by cases k<;>decide
  have k3:kdS k≠"either":=by cases k<;>decide
  have hlt:ts.length≤60:=by
   have:=ok.1.sub.length_le
   rw [CK] at this
   omega
  refine ak fun K1 hK1=>?_
  walk_at "rd"
  refine ifn k1 ?_
  rw [hK1]
  refine ak fun K2 hK2=>?_
  walk_at "rd"
  refine ifn k2 (ifn k3 ?_)
  rw [hK2]
  refine ak fun K3 hK3=>?_
  walk_at "rd"
  have e9:(10:Int) ^ Int.toNat 9=1000000000:=by decide +kernel
  rw [e9]
  refine⟨_,atL (k:=0) (by omega),⟨by decide,by decide,by decide⟩,_,_,rfl,cnz (by decide),?_⟩
  rw [hK3]
  have o0:=Int.fmod_nonneg_of_pos (cs[0]'(by omega)) (b:=1000000000) (by decide)
  have o1:=Int.fmod_lt_of_pos (cs[0]'(by omega)) (b:=1000000000) (by decide)
  walk_at "rd"
  generalize hm:1 + (cs[0]'(by omega)).fmod 1000000000=m
  have m1:1≤m:=by omega
  have m9:m≤1000000000:=by omega
  clear hm o0 o1
  have mb:∀ {x:Int},IntMulOk m x:=fun {x}=>IntMulOk.of_left (intBits_le_64 (by omega) (by omega))
  refine⟨by rw [CK];omega,fun d=>match d with | .tup [n,.int w]=>some (.tup [n,.int (m * w)]) | _=>none,fun x hx=>?_,?_⟩
  ·obtain ⟨t,_,rfl⟩:=CM.mp hx
   exact⟨_,rfl,rfl,_,_,rfl,_,_,rfl,rfl,_,_,rfl,mb,rfl⟩
  have e1:(ts.map tmD).filterMap (fun d=>match d with | .tup [n,.int w]=>some (D.tup [n,.int (m * w)]) | _=>none)=(lkT m ts).map tmD:=by
   unfold lkT
   rw [List.map_map]
   exact aN _ _ _ _ fun t _=>rfl
  rw [e1]
  exact⟨mb,q (.row k (lkT m ts) (m * b)) ⟨rfl,m,m1,m9,rfl,rfl⟩⟩
 | nt s =>
  unfold Say.D
  refine ak fun K1 hK1=>?_
  walk_at "rd"
  have hd:s.dep + 1≤n + 1:=hd
  exact⟨s,cs,names,rfl,by omega,ok,nl,h6,hb,hcb,fun s' l=>q (.nt s') l⟩
 | bo s t =>
  unfold Say.D
  have hd:max s.dep t.dep + 1≤n + 1:=hd
  refine ak fun K1 hK1=>?_
  walk_at "rd"
  refine ifn (by decide) ?_
  rw [hK1]
  refine ak fun K2 hK2=>?_
  walk_at "rd"
  refine⟨s,cs,names,rfl,by omega,ok.1,nl,h6,hb.1,hcb,fun s' l=>?_⟩
  rw [rot]
  refine⟨rotl,t,cs.drop 1++cs.take 1,names,rfl,by omega,ok.2,nl,by rw [CW,List.length_drop,De];omega,hb.2,fun c hc=>?_,fun t' l'=>q (.bo s' t') ⟨l,l'⟩⟩
  rcases CV.mp hc with z | z
  ·exact hcb c (List.mem_of_mem_drop z)
  ·exact hcb c (Dd z)
 | ei s t =>
  unfold Say.D
  have hd:max s.dep t.dep + 1≤n + 1:=hd
  refine ak fun K1 hK1=>?_
  walk_at "rd"
  refine ifn (by decide) ?_
  rw [hK1]
  refine ak fun K2 hK2=>?_
  walk_at "rd"
  refine ifn (by decide) ⟨s,cs,names,rfl,by omega,ok.1,nl,h6,hb.1,hcb,fun s' l=>?_⟩
  rw [rot]
  refine⟨rotl,t,cs.drop 1++cs.take 1,names,rfl,by omega,ok.2,nl,by rw [CW,List.length_drop,De];omega,hb.2,fun c hc=>?_,fun t' l'=>q (.ei s' t') ⟨l,l'⟩⟩
  rcases CV.mp hc with z | z
  ·exact hcb c (List.mem_of_mem_drop z)
  ·exact hcb c (Dd z)
theorem Say.bt_mono {B C:Nat} (h:B≤C):∀ {s:Say},s.bt B→s.bt C
 | .row _ _ _,o=>⟨fun t ht=>CN (o.1 t ht) h,CN o.2 h⟩
 | .nt s,o=>Say.bt_mono (s:=s) h o
 | .bo s t,o=>⟨Say.bt_mono h o.1,Say.bt_mono h o.2⟩
 | .ei s t,o=>⟨Say.bt_mono h o.1,Say.bt_mono h o.2⟩
structure Sz (s:Say):Prop where
 dep:s.dep≤20
 ok:s.ok S4
 bt:s.bt 64
 few:(s.pl false).num≤4∧(s.pl false).long≤3
theorem i8 {p:Str→Bool}:∀ {s:Say},s.ok S4→(∀ n∈s.nms,p n=true)→s.ok (S4.filter p)
 | .row k ts b,h,hn=>⟨⟨by
   have e:(ts.map (·.1)).filter p=ts.map (·.1):=List.filter_eq_self.mpr hn
   rw [← e];exact h.1.sub.filter p,h.1.nz,h.1.bits⟩,h.2⟩
 | .nt s,h,hn=>i8 (s:=s) h hn
 | .bo s t,h,hn=>⟨i8 h.1 fun n z=>hn n (CU _ z),i8 h.2 fun n z=>hn n (CT _ z)⟩
 | .ei s t,h,hn=>⟨i8 h.1 fun n z=>hn n (CU _ z),i8 h.2 fun n z=>hn n (CT _ z)⟩
theorem Sz.two {a b:Say} (ha:Sz a) (hb:Sz b):∃ nm,Two a b nm 64 4:=by
 have mem:∀ n,n∈S4.filter (fun n=>decide (n∈a.nms∨n∈b.nms))↔n∈a.nms∨n∈b.nms:=fun n=>by
  rw [C5,decide_eq_true_iff]
  exact⟨fun h=>h.2,fun h=>⟨h.elim (Say.nms_sub ha.ok n) (Say.nms_sub hb.ok n),h⟩⟩
 have l4:(S4.filter (fun n=>decide (n∈a.nms∨n∈b.nms))).length≤4:=List.length_filter_le ..
 exact⟨_,by have:=ha.dep;omega,by have:=hb.dep;omega,i8 ha.ok fun n h=>decide_eq_true (.inl h),i8 hb.ok fun n h=>decide_eq_true (.inr h),ha.bt,hb.bt,ha.few,hb.few,Ao.filter _,Be.filter _,mem,l4,by decide,by decide,.inl (BM l4)⟩
inductive fM (ds:List D) (R:D→Prop):Prop
 | mk (a b:Say) (w:Str) (hh:ds=[a.D,b.D,.str w]∧Sz a∧Sz b∧((w="point"∧∃ x,a.sx x∧b.sx x)∨(w="paper"∧∀ x,¬ (a.sx x∧b.sx x)))∧R (.bl true))
theorem iG:∀ ds R,fM ds R→ds.length=3:=fun _ _ h_0=>by obtain ⟨_,_,_,e,_⟩:=h_0;rw [e];rfl
theorem d9:ax ["_law_one","_law_other","_law_due","_law_sort","_law_found"] ["_law_one","_law_other","_law_due"] (am s__law_good):=⟨rfl,rfl,rfl,by decide +kernel,rfl,by decide +kernel,by decide +kernel⟩
theorem ky (F:Fd K mg "_law_good" s__law_good ["_law_one","_law_other","_law_due"]) (dB:Cal P w K mg base 66 "both_so" ["one","other"] (spD K (fR))) (cC:Cal P w K mg base 62 "_law_paper_good" ["_law_one","_law_other","_law_paper"] (spD K (cw))) (bE:Cal P w K mg base 63 "_law_so" ["_law_saying","_law_point"] (spD K (cG 60))):Cal P w K mg base 67 "_law_good" ["_law_one","_law_other","_law_due"] (spD K fM):=by
 refine fn_D F d9 iG fun fa cdv A outer s H E ds R hr h=>?_
 have hU:=hr.units
 refine⟨_,(ad (sT (aq dB (rm hr) rfl (ac (de_v 0) (ac (de_v 1) af))) (bY (n:=2) rfl (aw (ap 3 d9.nd) (aw (ap 4 d9.nd) aZ)))) (ad (aR (aH (jG hU) (de_v 3) (de_v 2) (aB _)) (ag (av eh)) aD) (ad (aR (aH (o_eq hU) (de_v 3) ay (aB _)) (ag (av (aq cC (rm hr) rfl (ac (de_v 0) (ac (de_v 1) (ac (de_v 4) af)))))) aD) (ag (av (gS (aq bE (rm hr) rfl (ac (de_v 0) (ac (de_v 4) af))) (cZ (aq bE (rm hr) rfl (ac (de_v 1) (ac (de_v 4) af)))))))))),?_⟩
 obtain ⟨a,b,w,rfl,ha,hb,hw,q⟩:=h
 obtain ⟨nm,T⟩:=ha.two hb
 have nl:=T.len
 have n4:=T.n4
 refine ak fun K1 hK1=>?_
 walk_at "rd"
 refine⟨a,b,nm,64,4,rfl,T,?_⟩
 rcases wJ T with ⟨ps,ep,P,κ,sa,sb⟩ | ⟨ew,no,sh⟩
 ·have hw:w="point":=by
   rcases hw with z | z
   ·exact z.1
   ·exact absurd ⟨sa,sb⟩ (z.2 _)
  subst hw
  rw [ep]
  refine⟨_,rfl,rfl,_,_,rfl,_,_,rfl,rfl,?_⟩
  rw [hK1]
  refine ak fun K2 hK2=>?_
  walk_at "rd"
  rw [hK2]
  refine ak fun K3 hK3=>?_
  walk_at "rd"
  refine ifn (by decide) ?_
  rw [hK3]
  walk_at "rd"
  have hPk:Pk nm ps:=⟨P.mono (by decide),CN κ (by decide)⟩
  have ina:∀ x∈a.nms,x∈nm:=fun x hx=>(T.mem x).mpr (.inl hx)
  have inb:∀ x∈b.nms,x∈nm:=fun x hx=>(T.mem x).mpr (.inr hx)
  refine⟨a,nm,ps,nm,rfl,by have:=T.da;omega,T.oa,T.nd,by omega,ina,hPk,?_⟩
  rw [(Say.tv_sx fun n hn=>P.pos (ina n hn)).mpr sa]
  refine⟨true,rfl,ifp rfl ⟨b,nm,ps,nm,rfl,by have:=T.db;omega,T.ob,T.nd,by omega,inb,hPk,?_⟩⟩
  rw [(Say.tv_sx fun n hn=>P.pos (inb n hn)).mpr sb]
  exact q
 ·have hw:w="paper":=by
   rcases hw with z | z
   ·obtain ⟨_,x,hx⟩:=z
    exact absurd hx (no x)
   ·exact z.1
  subst hw
  rw [ew]
  refine⟨_,rfl,rfl,_,_,rfl,_,_,rfl,rfl,?_⟩
  rw [hK1,← Cq]
  refine ak fun K2 hK2=>?_
  walk_at "rd"
  rw [hK2]
  refine ak fun K3 hK3=>?_
  walk_at "rd"
  refine⟨a,b,nm,_,rfl,T.da,T.db,T.oa,T.ob,by omega,T.na.1,T.na.2,T.nb.1,T.nb.2,uw (n:=60000) (fun c hc d hd z hz=>CN ((sh c hc d hd).2 z hz) ?_),?_⟩
  ·exact CN (yM nl) (by decide)
  ·rw [Bf fun c hc d hd=>(sh c hc d hd).1]
   exact q
theorem lD:ax ["_law_script","_law_one","_law_other","_law_due","_law_cells"] ["_law_script"] (am s_law):=⟨rfl,rfl,rfl,by decide +kernel,rfl,by decide +kernel,by decide +kernel⟩
theorem xj {fa:Addr} {fd:FuncData} (F:Fun K "law" "law" s_law fa fd) (dr:Cal P w K mg base 3 "_law_sayings" ["_law_script"] (spD K (dl))) (dB:Cal P w K mg base 66 "both_so" ["one","other"] (spD K (fR))) (bX:Cal P w K mg base 67 "_law_good" ["_law_one","_law_other","_law_due"] (spD K (fM))) (bf:Cal P w K mg base 61 "_law_times" ["_law_saying","_law_cells"] (spD K (bv 60))):FnOk P w K mg base CX0 68 fa fd ["_law_script"] (spD K fLaw):=by
 refine AS F lD (fun ds R ⟨ns,e,_⟩=>by rw [e];rfl) fun cdv A outer s H E ds R hr h=>?_
 have hU:=hr.units
 refine⟨_,(ad (sT (aq dr (rm hr) rfl (ac (de_v 0) af)) (wC (n:=2) rfl (aw (ap 1 lD.nd) (aw (ap 2 lD.nd) aZ)))) (ad (aA 3 lD.nd (ar au (aq dB (rm hr) rfl (ac (de_v 1) (ac (de_v 2) af))) ae (fun _ _=>rfl))) (ad (aA 4 lD.nd (jW (aC aS (jW (de_v 0) (fg ae) (fg ae)) (b6 (ac ae (ac ae (ac ae (ac ae (ac ae (ac ae af)))))))) jg (fg ae))) (ad (aR (DW.dt (jB (eX (cm (aq bX (rm hr) rfl (ac (de_v 1) (ac (de_v 2) (ac (de_v 3) af)))))) (eS (eX (cm (aq bX (rm hr) rfl (ac (de_v 2) (ac (de_v 1) (ac (de_v 3) af))))))))) (ag (av eh)) aD) (ad (aR (DW.dt (jB (eX (cm (aq bX (rm hr) rfl (ac (aq bf (rm hr) rfl (ac (de_v 1) (ac (de_v 4) af))) (ac (de_v 2) (ac (de_v 3) af)))))) (eS (eX (cm (aq bX (rm hr) rfl (ac (aG (ac ay (ac (aG (ac ay (ac (de_v 1) af))) af))) (ac (de_v 2) (ac (de_v 3) af))))))))) (ag (av eh)) aD) (ag (av (aq bX (rm hr) rfl (ac (de_v 1) (ac (aG (ac ay (ac (aG (ac ay (ac (de_v 2) af))) af))) (ac (de_v 3) af))))))))))),?_⟩
 obtain ⟨ns,rfl,h63,hb,q⟩:=h
 refine ak fun K1 hK1=>?_
 walk_at "rd"
 refine⟨ns,rfl,h63,hb,fun a b ga gb=>⟨_,rfl,rfl,_,_,rfl,_,_,rfl,rfl,?_⟩⟩
 rw [hK1]
 have za:Sz a:=⟨by have:=ga.dep;omega,ga.ok,Say.bt_mono (by decide) ga.bt,ga.few⟩
 have zb:Sz b:=⟨by have:=gb.dep;omega,gb.ok,Say.bt_mono (by decide) gb.bt,gb.few⟩
 obtain ⟨nm,T⟩:=za.two zb
 refine ak fun K2 hK2=>?_
 walk_at "rd"
 refine⟨a,b,nm,64,4,rfl,T,?_⟩
 have due:∃ w d,bth nm (a.pl false).kr (b.pl false).kr=.tup [.str w,d]∧((w="point"∧∃ x,a.sx x∧b.sx x)∨(w="paper"∧∀ x,¬ (a.sx x∧b.sx x))):=by
  rcases wJ T with ⟨ps,ep,P,κ,sa,sb⟩ | ⟨ew,no,sh⟩
  ·exact⟨_,_,ep,.inl ⟨rfl,_,sa,sb⟩⟩
  ·exact⟨_,_,ew,.inr ⟨rfl,no⟩⟩
 obtain ⟨w,d,ed,hw⟩:=due
 rw [ed]
 walk_at "rd"
 rw [hK2]
 refine ak fun K3 hK3=>?_
 walk_at "rd"
 obtain ⟨cs,ec,c6,cb⟩:∃ cs:List Int,cut (cut (ns.map D.int) (some 45) (some 51)++[D.int 1,D.int 2,D.int 3,D.int 4,D.int 5,D.int 6]) none (some 6)=cs.map D.int∧cs.length=6∧∀ c∈cs,ib c≤1048600:=by
  refine⟨(cut ns (some 45) (some 51)++[1,2,3,4,5,6]).take 6,?_,by simp,fun c hc=>?_⟩
  ·rw [show (6:Int)=((6:Nat):Int) from rfl,wI,xm,List.map_take,C3];rfl
  ·rcases CV.mp (Dd hc) with z | z
   ·exact CN (hb _ (yx z)) (by decide)
   ·simp only [CQ,List.not_mem_nil,or_false] at z
    rcases z with rfl | rfl | rfl | rfl | rfl | rfl<;>decide
 rw [ec]
 refine⟨by have:(cut (ns.map D.int) (some 45) (some 51)).length≤51 - 45:=xQ (l:=ns.map D.int) 45 51;omega,?_⟩
 rw [hK3]
 have nnt:∀ {s:Say},Sz s→s.dep≤10→Sz (.nt (.nt s)):=fun {s} h hd=>⟨by show s.dep + 1 + 1≤20;omega,h.ok,h.bt,h.few⟩
 have nns:∀ {s:Say} {x:Str→Rat},(Say.nt (.nt s)).sx x↔s.sx x:=fun {s x}=>Classical.not_not
 refine ak fun K4 hK4=>?_
 walk_at "rd"
 refine⟨a,b,w,rfl,za,zb,hw,?_⟩
 walk_at "rd"
 have sym:∀ {a b a' b':Say},(∀ x,(a'.sx x∧b'.sx x)↔(a.sx x∧b.sx x))→((w="point"∧∃ x,a.sx x∧b.sx x)∨(w="paper"∧∀ x,¬ (a.sx x∧b.sx x)))→((w="point"∧∃ x,a'.sx x∧b'.sx x)∨(w="paper"∧∀ x,¬ (a'.sx x∧b'.sx x))):=fun h z=>by simpa only [h] using z
 refine⟨b,a,w,rfl,zb,za,sym (fun x=>and_comm) hw,?_⟩
 walk_at "rd"
 rw [hK4]
 refine ak fun K5 hK5=>?_
 walk_at "rd"
 refine⟨a,cs,S4,rfl,by have:=ga.dep;omega,ga.ok,by decide,c6,Say.bt_mono (by decide) ga.bt,cb,fun a' l=>?_⟩
 have za':Sz a':=⟨by rw [Say.lk_dep l];exact za.dep,Say.lk_ok l ga.ok ga.bt,Say.lk_bt l ga.bt,by rw [(Say.lk_few false l).1,(Say.lk_few false l).2];exact za.few⟩
 refine⟨a',b,w,rfl,za',zb,sym (fun x=>by rw [Say.lk_sx l]) hw,?_⟩
 walk_at "rd"
 refine⟨.nt (.nt a),b,w,rfl,nnt za ga.dep,zb,sym (fun x=>by rw [nns]) hw,?_⟩
 walk_at "rd"
 rw [hK5]
 walk_at "rd"
 exact⟨a,.nt (.nt b),w,rfl,za,nnt zb gb.dep,sym (fun x=>by rw [nns]) hw,q⟩
theorem all_mk {l:PySem.W.OpenLaw} {w:World} {K:PySem.W.Frag} {h:Heap} {mg:Str→Option Value} {fa f:Addr} (X:K.In h) (G:h.Ns mainGlobals mg) (hfa:mg "law"=some (.ref fa))
  {od an:Option Addr} {sl:Array (Option Value)} {oc kV dc pm cd ct:Value}
  (q0:FdK K "common_divisor" s_common_divisor)
  (q1:FdK K "made" s_made)
  (q2:FdK K "plus" s_plus)
  (q3:FdK K "times" s_times)
  (q4:FdK K "less" s_less)
  (q5:FdK K "is_row" s_is_row)
  (q6:FdK K "mark_names" s_mark_names)
  (q7:FdK K "names_of" s_names_of)
  (q8:FdK K "tops_of" s_tops_of)
  (q9:FdK K "top_of_sum" s_top_of_sum)
  (q10:FdK K "row_is_so" s_row_is_so)
  (q11:FdK K "part_is_so" s_part_is_so)
  (q12:FdK K "is_so" s_is_so)
  (q13:FdK K "contrary" s_contrary)
  (q14:FdK K "plain_part" s_plain_part)
  (q15:FdK K "plain" s_plain)
  (q16:FdK K "_law_cell" s__law_cell)
  (q17:FdK K "put_together" s_put_together)
  (q18:FdK K "cases_within" s_cases_within)
  (q19:FdK K "cases" s_cases)
  (q20:FdK K "added" s_added)
  (q21:FdK K "weight_of" s_weight_of)
  (q22:FdK K "alone" s_alone)
  (q23:FdK K "shortened" s_shortened)
  (q24:FdK K "crossed" s_crossed)
  (q25:FdK K "without" s_without)
  (q26:FdK K "taken_out" s_taken_out)
  (q27:FdK K "bound_on" s_bound_on)
  (q28:FdK K "tighter" s_tighter)
  (q29:FdK K "number_in" s_number_in)
  (q30:FdK K "piece_for" s_piece_for)
  (q31:FdK K "found_back" s_found_back)
  (q32:FdK K "solved" s_solved)
  (q33:FdK K "both_so" s_both_so)
  (q34:FdK K "_law_whole" s__law_whole)
  (q35:FdK K "_law_over" s__law_over)
  (q36:FdK K "_law_total" s__law_total)
  (q37:FdK K "_law_row_so" s__law_row_so)
  (q38:FdK K "_law_number" s__law_number)
  (q39:FdK K "_law_line" s__law_line)
  (q40:FdK K "_law_fence" s__law_fence)
  (q41:FdK K "_law_shaped" s__law_shaped)
  (q42:FdK K "_law_sayings" s__law_sayings)
  (q43:FdK K "_law_so" s__law_so)
  (q44:FdK K "_law_cases" s__law_cases)
  (q45:FdK K "_law_weights_good" s__law_weights_good)
  (q46:FdK K "_law_paper_good" s__law_paper_good)
  (q47:FdK K "_law_times" s__law_times)
  (q48:FdK K "_law_good" s__law_good)
  (a:PySem.W.nsIn K mainGlobals "law"=some (some (.ref f))) (l1:K.lookup f=some ⟨oc,od,.func (PySem.W.fnOf "law" "law" (cI s_law) (bI s_law) (am s_law) .none kV dc pm an cd ct),sl⟩) (c:PySem.W.codeIn K cd "law"=true) (k:PySem.W.keepIn K (.ref f)=true)
  (z0:PySem.W.nsIn K mainGlobals "abs"=some none)
  (z1:PySem.W.nsIn K mainGlobals "sorted"=some none)
  (z2:PySem.W.nsIn K mainGlobals "tuple"=some none)
  (z3:PySem.W.nsIn K mainGlobals "len"=some none)
  (z4:PySem.W.nsIn K mainGlobals "max"=some none)
  (z5:PySem.W.nsIn K mainGlobals "zip"=some none)
  (z6:PySem.W.nsIn K mainGlobals "enumerate"=some none)
  (z7:PySem.W.nsIn K mainGlobals "range"=some none)
  (z8:PySem.W.nsIn K mainGlobals "reversed"=some none)
  (z9:PySem.W.nsIn K mainGlobals "dict"=some none)
  (z10:PySem.W.nsIn K mainGlobals "isinstance"=some none)
  (z11:PySem.W.nsIn K mainGlobals "bool"=some none)
  (z12:PySem.W.nsIn K mainGlobals "int"=some none)
  {ga_OPPOSITES:Addr} (gi_OPPOSITES:PySem.W.nsIn K mainGlobals "OPPOSITES"=some (some (.ref ga_OPPOSITES))) (gl_OPPOSITES:PyProof.Rows.KTD.tabLook (PyProof.Rows.KTD.datLooks fun b=>K.lookup b) (fun b=>K.lookup b) ga_OPPOSITES (txt [("least","more"),("more","least"),("both","either"),("either","both")])=true)
  {ga_MOST_ROWS:Tok} (gi_MOST_ROWS:PySem.W.nsIn K mainGlobals "MOST_ROWS"=some (some (.int 3 ga_MOST_ROWS)))
  {ga_MOST_CASES:Tok} (gi_MOST_CASES:PySem.W.nsIn K mainGlobals "MOST_CASES"=some (some (.int 4 ga_MOST_CASES)))
  {ga_ENDLESS:Addr} {od_ENDLESS:Option Addr} {n_ENDLESS:Nat} {sl_ENDLESS:Array (Option Value)} (gi_ENDLESS:PySem.W.nsIn K mainGlobals "ENDLESS"=some (some (.ref ga_ENDLESS))) (gl_ENDLESS:K.lookup ga_ENDLESS=some ⟨.type "tuple",od_ENDLESS,.seq #[.none,.bool false] n_ENDLESS,sl_ENDLESS⟩)
  : ∃ fd:FuncData,(∀ (s:Shared) (v:Value),BindsTo s fd ⟨[v],[]⟩ [("_law_script",v)])∧∀ base:Heap,K.In base→base.Ns mainGlobals mg→FnOk l.prog w K mg base CX0 68 fa fd ["_law_script"] (zm K):=by
 have e:=hfa.symm.trans (PySem.W.mg_of X G a)
 cases e
 have xT:=PySem.W.mg_none_of X G z0
 have cQ:=PySem.W.mg_none_of X G z1
 have aK:=PySem.W.mg_none_of X G z2
 have cA:=PySem.W.mg_none_of X G z3
 have wW:=PySem.W.mg_none_of X G z4
 have eO:=PySem.W.mg_none_of X G z5
 have cu:=PySem.W.mg_none_of X G z6
 have cH:=PySem.W.mg_none_of X G z7
 have gM:=PySem.W.mg_none_of X G z8
 have tX:=PySem.W.mg_none_of X G z9
 have aQ:=PySem.W.mg_none_of X G z10
 have sJ:=PySem.W.mg_none_of X G z11
 have qf:=PySem.W.mg_none_of X G z12
 have g_OPPOSITES:GTab K mg "OPPOSITES" [("least","more"),("more","least"),("both","either"),("either","both")]:=⟨⟨_,PySem.W.mg_of X G gi_OPPOSITES,gl_OPPOSITES⟩⟩
 have g_MOST_ROWS:GInt mg "MOST_ROWS" 3:=⟨⟨_,PySem.W.mg_of X G gi_MOST_ROWS⟩⟩
 have g_MOST_CASES:GInt mg "MOST_CASES" 4:=⟨⟨_,PySem.W.mg_of X G gi_MOST_CASES⟩⟩
 have g_ENDLESS:GEnd K mg "ENDLESS":=⟨⟨_,_,_,PySem.W.mg_of X G gi_ENDLESS,gl_ENDLESS,rfl,rfl⟩⟩
 have F:=v4 (st:=s_law) l1 c k
 refine⟨PySem.W.fnOf "law" "law" (cI s_law) (bI s_law) (am s_law) .none kV dc pm an cd ct,fun s v=>.of_eq rfl,fun base _ _=>?_⟩
 have a8:=fS (P:=l.prog) (w:=w) (base:=base) (q0.fd2 X G fun _ _ _ _ _ _ _ _=>rfl) xT
 have dE:=vt (P:=l.prog) (w:=w) (base:=base) (q1.fd2 X G fun _ _ _ _ _ _ _ _=>rfl) a8
 have rH:=vx (P:=l.prog) (w:=w) (base:=base) (q2.fd2 X G fun _ _ _ _ _ _ _ _=>rfl) dE
 have mE:=tz (P:=l.prog) (w:=w) (base:=base) (q3.fd2 X G fun _ _ _ _ _ _ _ _=>rfl) dE
 have jX:=uN (P:=l.prog) (w:=w) (base:=base) (q4.fd2 X G fun _ _ _ _ _ _ _ _=>rfl)
 have bS:=qu (P:=l.prog) (w:=w) (base:=base) (q5.fd1 X G fun _ _ _ _ _ _ _=>rfl)
 have bJ:∀ n,Cal l.prog w K mg base (2 + n) "mark_names" ["saying","found"] (spO1 K (bx n)):=fun n=>Nat.rec (motive:=fun n=>Cal l.prog w K mg base (2 + n) "mark_names" ["saying","found"] (spO1 K (bx n))) (rC (q6.fd2 X G fun _ _ _ _ _ _ _ _=>rfl) _ gx) (fun n ih=>jy (P:=l.prog) (w:=w) (base:=base) (q6.fd2 X G fun _ _ _ _ _ _ _ _=>rfl) bS ih) n
 have bJ:Cal l.prog w K mg base 62 "mark_names" ["saying","found"] (spO1 K (bx 60)):=bJ 60
 have cT:=lG (P:=l.prog) (w:=w) (base:=base) (q7.fd1 X G fun _ _ _ _ _ _ _=>rfl) bJ cQ
 have dy:=nF (P:=l.prog) (w:=w) (base:=base) (q8.fd2 X G fun _ _ _ _ _ _ _ _=>rfl)
 have b7:=jH (P:=l.prog) (w:=w) (base:=base) (q9.fd2 X G fun _ _ _ _ _ _ _ _=>rfl)
 have fG:=kL (P:=l.prog) (w:=w) (base:=base) (q10.fd3 X G fun _ _ _ _ _ _ _ _ _=>rfl) b7
 have a9:∀ n,Cal l.prog w K mg base (3 + n) "part_is_so" ["saying","tops","bottom"] (spD K (bB n)):=fun n=>Nat.rec (motive:=fun n=>Cal l.prog w K mg base (3 + n) "part_is_so" ["saying","tops","bottom"] (spD K (bB n))) (eJ (q11.fd3 X G fun _ _ _ _ _ _ _ _ _=>rfl) _ gJ) (fun n ih=>jC (P:=l.prog) (w:=w) (base:=base) (q11.fd3 X G fun _ _ _ _ _ _ _ _ _=>rfl) bS fG ih) n
 have a9:Cal l.prog w K mg base 63 "part_is_so" ["saying","tops","bottom"] (spD K (bB 60)):=a9 60
 have nI:=t6 (P:=l.prog) (w:=w) (base:=base) (q12.fd2 X G fun _ _ _ _ _ _ _ _=>rfl) dy cT a9
 have gH:=lE (P:=l.prog) (w:=w) (base:=base) (q13.fd1 X G fun _ _ _ _ _ _ _=>rfl) aK g_OPPOSITES
 have bg:∀ n,Cal l.prog w K mg base (2 + n) "plain_part" ["saying","turned"] (spD K (bq n)):=fun n=>Nat.rec (motive:=fun n=>Cal l.prog w K mg base (2 + n) "plain_part" ["saying","turned"] (spD K (bq n))) (eJ (q14.fd2 X G fun _ _ _ _ _ _ _ _=>rfl) _ gy) (fun n ih=>jt (P:=l.prog) (w:=w) (base:=base) (q14.fd2 X G fun _ _ _ _ _ _ _ _=>rfl) bS gH g_OPPOSITES ih) n
 have bg:Cal l.prog w K mg base 62 "plain_part" ["saying","turned"] (spD K (bq 60)):=bg 60
 have mZ:=rA (P:=l.prog) (w:=w) (base:=base) (q15.fd1 X G fun _ _ _ _ _ _ _=>rfl) bg
 have cq:=j9 (P:=l.prog) (w:=w) (base:=base) (q16.fd2 X G fun _ _ _ _ _ _ _ _=>rfl) cA
 have dm:=ip (P:=l.prog) (w:=w) (base:=base) (q17.fd2 X G fun _ _ _ _ _ _ _ _=>rfl)
 have aU:∀ n,Cal l.prog w K mg base (2 + n) "cases_within" ["part","whole"] (spD K (aV n)):=fun n=>Nat.rec (motive:=fun n=>Cal l.prog w K mg base (2 + n) "cases_within" ["part","whole"] (spD K (aV n))) (eJ (q18.fd2 X G fun _ _ _ _ _ _ _ _=>rfl) _ fh) (fun n ih=>hG (P:=l.prog) (w:=w) (base:=base) (q18.fd2 X G fun _ _ _ _ _ _ _ _=>rfl) bS dm wW cA g_MOST_ROWS g_MOST_CASES ih) n
 have aU:Cal l.prog w K mg base 62 "cases_within" ["part","whole"] (spD K (aV 60)):=aU 60
 have ko:=rW (P:=l.prog) (w:=w) (base:=base) (q19.fd1 X G fun _ _ _ _ _ _ _=>rfl) aU mZ
 have nP:=rf (P:=l.prog) (w:=w) (base:=base) (q20.fd2 X G fun _ _ _ _ _ _ _ _=>rfl) eO aK cQ
 have aL:=kE (P:=l.prog) (w:=w) (base:=base) (q21.fd2 X G fun _ _ _ _ _ _ _ _=>rfl)
 have nW:=tF (P:=l.prog) (w:=w) (base:=base) (q22.fd1 X G fun _ _ _ _ _ _ _=>rfl) cu aK cH cA
 have fH:=ke (P:=l.prog) (w:=w) (base:=base) (q23.fd1 X G fun _ _ _ _ _ _ _=>rfl) a8 aK
 have iE:=oy (P:=l.prog) (w:=w) (base:=base) (q24.fd3 X G fun _ _ _ _ _ _ _ _ _=>rfl) aL fH eO
 have iS:=mO (P:=l.prog) (w:=w) (base:=base) (q25.fd4 X G fun _ _ _ _ _ _ _ _ _ _=>rfl) aL iE nP cA
 have fm:=kF (P:=l.prog) (w:=w) (base:=base) (q26.fd2 X G fun _ _ _ _ _ _ _ _=>rfl) nW iS gM cA
 have eN:=lr (P:=l.prog) (w:=w) (base:=base) (q27.fd3 X G fun _ _ _ _ _ _ _ _ _=>rfl) dy dE aL b7
 have f8:=oh (P:=l.prog) (w:=w) (base:=base) (q28.fd3 X G fun _ _ _ _ _ _ _ _ _=>rfl) jX
 have fu:=k7 (P:=l.prog) (w:=w) (base:=base) (q29.fd1 X G fun _ _ _ _ _ _ _=>rfl) dE jX mE rH
 have fJ:=kU (P:=l.prog) (w:=w) (base:=base) (q30.fd3 X G fun _ _ _ _ _ _ _ _ _=>rfl) aL f8 eN g_ENDLESS
 have dZ:=jK (P:=l.prog) (w:=w) (base:=base) (q31.fd3 X G fun _ _ _ _ _ _ _ _ _=>rfl) fu fJ tX eO
 have kq:=qd (P:=l.prog) (w:=w) (base:=base) (q32.fd2 X G fun _ _ _ _ _ _ _ _=>rfl) fm nI dZ
 have dB:=mS (P:=l.prog) (w:=w) (base:=base) (q33.fd2 X G fun _ _ _ _ _ _ _ _=>rfl) ko cT kq aK
 have dU:=jJ (P:=l.prog) (w:=w) (base:=base) (q34.fd1 X G fun _ _ _ _ _ _ _=>rfl) aQ sJ qf
 have e6:=kf (P:=l.prog) (w:=w) (base:=base) (q35.fd2 X G fun _ _ _ _ _ _ _ _=>rfl)
 have d8:=jz (P:=l.prog) (w:=w) (base:=base) (q36.fd2 X G fun _ _ _ _ _ _ _ _=>rfl)
 have dH:=i6 (P:=l.prog) (w:=w) (base:=base) (q37.fd2 X G fun _ _ _ _ _ _ _ _=>rfl) e6 d8
 have bD:=iQ (P:=l.prog) (w:=w) (base:=base) (q38.fd1 X G fun _ _ _ _ _ _ _=>rfl)
 have fD:=j8 (P:=l.prog) (w:=w) (base:=base) (q39.fd2 X G fun _ _ _ _ _ _ _ _=>rfl) bD cH aK
 have ef:=jx (P:=l.prog) (w:=w) (base:=base) (q40.fd3 X G fun _ _ _ _ _ _ _ _ _=>rfl) cQ aK
 have dO:=jd (P:=l.prog) (w:=w) (base:=base) (q41.fd2 X G fun _ _ _ _ _ _ _ _=>rfl) cu
 have dr:=io (P:=l.prog) (w:=w) (base:=base) (q42.fd1 X G fun _ _ _ _ _ _ _=>rfl) bD cq ef fD dO cH
 have bE:∀ n,Cal l.prog w K mg base (3 + n) "_law_so" ["_law_saying","_law_point"] (spD K (cG n)):=fun n=>Nat.rec (motive:=fun n=>Cal l.prog w K mg base (3 + n) "_law_so" ["_law_saying","_law_point"] (spD K (cG n))) (eJ (q43.fd2 X G fun _ _ _ _ _ _ _ _=>rfl) _ jv) (fun n ih=>nX (P:=l.prog) (w:=w) (base:=base) (q43.fd2 X G fun _ _ _ _ _ _ _ _=>rfl) dH ih) n
 have bE:Cal l.prog w K mg base 63 "_law_so" ["_law_saying","_law_point"] (spD K (cG 60)):=bE 60
 have aW:∀ n,Cal l.prog w K mg base (1 + n) "_law_cases" ["_law_saying","_law_so_here"] (spD K (bA n)):=fun n=>Nat.rec (motive:=fun n=>Cal l.prog w K mg base (1 + n) "_law_cases" ["_law_saying","_law_so_here"] (spD K (bA n))) (eJ (q44.fd2 X G fun _ _ _ _ _ _ _ _=>rfl) _ gK) (fun n ih=>jw (P:=l.prog) (w:=w) (base:=base) (q44.fd2 X G fun _ _ _ _ _ _ _ _=>rfl) aK qf ih) n
 have aW:Cal l.prog w K mg base 61 "_law_cases" ["_law_saying","_law_so_here"] (spD K (bA 60)):=aW 60
 have bV:=dW (P:=l.prog) (w:=w) (base:=base) (q45.fd2 X G fun _ _ _ _ _ _ _ _=>rfl) dU cA aQ aK eO
 have cC:=fF (P:=l.prog) (w:=w) (base:=base) (q46.fd3 X G fun _ _ _ _ _ _ _ _ _=>rfl) aW bV cA aQ aK eO
 have bf:∀ n,Cal l.prog w K mg base (1 + n) "_law_times" ["_law_saying","_law_cells"] (spD K (bv n)):=fun n=>Nat.rec (motive:=fun n=>Cal l.prog w K mg base (1 + n) "_law_times" ["_law_saying","_law_cells"] (spD K (bv n))) (eJ (q47.fd2 X G fun _ _ _ _ _ _ _ _=>rfl) _ gz) (fun n ih=>jp (P:=l.prog) (w:=w) (base:=base) (q47.fd2 X G fun _ _ _ _ _ _ _ _=>rfl) aK ih) n
 have bf:Cal l.prog w K mg base 61 "_law_times" ["_law_saying","_law_cells"] (spD K (bv 60)):=bf 60
 have bX:=ky (P:=l.prog) (w:=w) (base:=base) (q48.fd3 X G fun _ _ _ _ _ _ _ _ _=>rfl) dB cC bE
 exact An (xj F dr dB bX bf)
end Lw
open PySem PySem.W PyProof.Rows
theorem PySem.Challenge.cw_rowbetween_k62_whole_turned_about_holds : PySem.Challenge.rw_rowbetween_k62_whole_turned_about.Holds := by
 refine Hd.half fun YP d K hY hdf hdn f=>?_
 refine DL.walkB (l:=PySem.Challenge.rw_rowbetween_k62_whole_turned_about) (k:=68) (x:="_law_script") rfl hdf ⟨rfl,by decide,by decide⟩ hY fun w mg fa h KX G hmg=>?_
 rw [hdn] at hmg
 obtain ⟨⟨_,_,_,_,_,_,_,_,_,_,a,l1,c,k⟩⟩:=(f w).q49
 obtain ⟨_,gi_OPPOSITES,gl_OPPOSITES⟩:=(f w).g_OPPOSITES
 obtain ⟨_,gi_MOST_ROWS⟩:=(f w).g_MOST_ROWS
 obtain ⟨_,gi_MOST_CASES⟩:=(f w).g_MOST_CASES
 obtain ⟨_,_,_,_,gi_ENDLESS,gl_ENDLESS⟩:=(f w).g_ENDLESS
 exact Lw.all_mk KX G hmg (f w).q0 (f w).q1 (f w).q2 (f w).q3 (f w).q4 (f w).q5 (f w).q6 (f w).q7 (f w).q8 (f w).q9 (f w).q10 (f w).q11 (f w).q12 (f w).q13 (f w).q14 (f w).q15 (f w).q16 (f w).q17 (f w).q18 (f w).q19 (f w).q20 (f w).q21 (f w).q22 (f w).q23 (f w).q24 (f w).q25 (f w).q26 (f w).q27 (f w).q28 (f w).q29 (f w).q30 (f w).q31 (f w).q32 (f w).q33 (f w).q34 (f w).q35 (f w).q36 (f w).q37 (f w).q38 (f w).q39 (f w).q40 (f w).q41 (f w).q42 (f w).q43 (f w).q44 (f w).q45 (f w).q46 (f w).q47 (f w).q48 a l1 c k (f w).z0 (f w).z1 (f w).z2 (f w).z3 (f w).z4 (f w).z5 (f w).z6 (f w).z7 (f w).z8 (f w).z9 (f w).z10 (f w).z11 (f w).z12 gi_OPPOSITES gl_OPPOSITES gi_MOST_ROWS gi_MOST_CASES gi_ENDLESS gl_ENDLESS
#print axioms PySem.Challenge.cw_rowbetween_k62_whole_turned_about_holds
