import PyProof.Rows.All
import Wide.All
import OpenK.AllK
import Wide.FinOn
import Lean
import PyProof.EqAt
import PyProof.EqKinds
import PyProof.TupleCall
import PyProof.EqLayable
import KE.KIntText
import PyProof.EnumMake
import PyProof.EnumStmt
import PyProof.EnumFor
import PyProof.Rows.EnumRows
import PyProof.ExcInit
import PyProof.ExcClass2
import PyProof.InstStoreFacts
import KE.KRevIter
import PyProof.P3In
import PySem.Challenge.RW_chancehall_k36_chances_of_a_plan
def aj := @List.getElem?_eq_getElem
def ak := @List.length_map
def ao := @List.getElem?_eq_some_iff
def aq := @List.getElem?_map
def au := @List.getD_eq_getElem?_getD
def aA := @List.length_append
def aC := @List.mem_of_getElem?
def aD := @List.getElem?_append_right
def aF := @List.getElem?_append_left
def aG := @Nat.le_refl
def aH := @PySem.Heap.get?_push_of_some
def aJ := @List.mem_cons_of_mem
def aK := @PySem.Heap.lt_size
def aL := @Nat.le_trans
def aM := @List.getElem?_eq_none
def aN := @List.length_replicate
def aO := @List.mem_cons_self
def aP := @List.mem_append_right
def aQ := @Nat.ne_of_lt
def aR := @Nat.lt_of_lt_of_le
def aU := @List.getElem_mem
def aV := @List.getElem?_of_mem
def aW := @PySem.Heap.get?_push_size
def aX := @List.size_toArray
def aY := @List.length_take
def aZ := @Nat.zero_le
def bf := @List.map_append
def bh := @Bool.false_ne_true
open PySem.W (Frag instObj methodObj hideAll hideAll_get of_hideAll lookIn plainGet hasDictIn findIn handedIn plainGet_of findObj_own isFn plainOver takerIn set_plain looks_clsIn makesIn typeIn emptyDict looks_findIn keepIn specialIn mroIn kitOne kia_one kitx_list kitx_tuple callWith_K methodCall_KW codeIn nsIn mg_of excIn isNs_of_in clsIn looks_mroIn KitX readsIn findCls method_cls cls_value notCls nsOkIn)
section
open PySem PySem.Spec PyProof.Rows
abbrev Γ:=List (Addr×Obj)
abbrev Δ:=List Value
abbrev Θ:=List Str
abbrev Φ:=List Addr
abbrev Ψ:=Option Value
abbrev Ω:=Option Addr
abbrev Ξ:=Int×Int
abbrev Β:=Value->Shared->Prop
def Zs:=@decide_eq_true
def Zp:=@decide_eq_false
def ZZ:=@if_neg
def ZY:=@if_pos
def ZU:=@wpAny_bind
def ZT:=@wpAny_pure
def ZH:=@congrArg
def Z3:=@Int.emod_nonneg
def YY:=@Int.emod_lt_of_pos
def YV:=@List.mem_map
def YU:=@List.mem_cons
def YR:=@List.mem_singleton
def Y1:=@List.mem_append
def Y2:=@Nat.le_of_lt
def Y3:=@Nat.lt_of_le_of_lt
def Xs:=@Nat.le_succ
def XZ:=@Int.mul_pos
def XY:=@Int.le_of_lt
def XX:=@Nat.lt_of_le_of_ne
def XW:=@Bool.false_eq_true
def XV:=@Rat.intCast_mul
def XU:=@Nat.pow_le_pow_right
def XT:=@Int.natAbs_natCast
def XG:=@List.getElem?_replicate
def X0:=@Nat.lt_succ_self
def X1:=@Nat.le_add_right
def X2:=@Nat.lt_irrefl
def X9:=@Int.natCast_nonneg
def Wp:=@List.append_assoc
def WZ:=@Nat.not_lt_zero
def WV:=@Nat.lt_add_right
def WU:=@Int.ne_of_gt
def WS:=@List.map_map
def WP:=@List.length_range
def WJ:=@PySem.boot_len
def WG:=@Nat.le_of_eq
def WH:=@List.length_set
def W1:=@List.length_zip
def VZ:=@List.getElem_map
def VY:=@List.not_mem_nil
def VX:=@List.getElem?_range
def VW:=@Rat.le_refl
def VV:=@Nat.ne_of_gt
def VU:=@Nat.min_self
def VT:=@Int.natAbs_mul
def VS:=@Nat.mul_le_mul
def VQ:=@List.getElem?_set_ne
def Up:=@Nat.le_of_not_lt
def UZ:=@List.length_drop
def UY:=@Nat.le_of_lt_succ
def UX:=@Nat.le_of_dvd
def UV:=@List.ext_getElem
def UU:=@List.getElem?_set_self
def UT:=@List.map_congr_left
def US:=@List.of_mem_zip
def UR:=@List.any_map
def UQ:=@Nat.zero_add
def UP:=@List.length_zipIdx
def UK:=@List.getElem_range
def UH:=@Nat.le_of_ble_eq_true
def U1:=@List.mem_append_left
def U2:=@List.drop_eq_nil_of_le
def Tu:=@List.map_set
def Ts:=@Nat.not_lt_of_le
def Tk:=@Nat.succ_pos
def Th:=@Nat.lt_trans
def TZ:=@Int.one_mul
def TW:=@Nat.add_sub_cancel_left
def TU:=@List.length_zipWith
def TR:=@Nat.sub_self
def TK:=@Rat.zero_add
def TH:=@Nat.one_pos
def T2:=@Int.lt_of_not_ge
def JY:=@Bool.and_eq_true
def JU:=@List.getElem_zip
def JS:=@Int.gcd_dvd_right
def JP:=@Rat.divInt_eq_divInt_iff
def JJ:=@Rat.divInt_add_divInt
def Qr:=@List.drop_eq_getElem_cons
def QY:=@List.take_of_length_le
def QU:=@List.getElem_zipIdx
def QR:=@Rat.intCast_zero
def QQ:=@Int.mul_ediv_cancel_left
def QP:=@Int.toNat_of_nonneg
def Q1:=@Rat.divInt_eq_div
def Q2:=@List.getElem_set
def Q3:=@Int.fdiv_eq_ediv_of_nonneg
def Q4:=@List.set_eq_of_length_le
def Zzz:=@Int.gcd_pos_of_ne_zero_right
def Zzy:=@Int.ediv_pos_of_pos_of_dvd
def Zzx:=@Nat.le_mul_of_pos_left
def Zzw:=@List.find?_cons_of_pos
def Zzv:=@List.find?_cons_of_neg
def Zzu:=@Int.eq_ofNat_of_zero_le
def Zzt:=@List.flatten_replicate_singleton
end
set_option Elab.async false
set_option linter.all false
set_option maxRecDepth 100000
set_option maxHeartbeats 4000000
namespace L2.Once
noncomputable section
open PySem PySem.W
def z:Pos:=⟨0,0,0,0⟩
def tE:Obj:=⟨.type "tuple",none,.seq ⟨[]⟩ 0,⟨[]⟩⟩
def fE:Obj:=⟨.none,none,.fields ⟨[]⟩,⟨[]⟩⟩
def tN(t:Nat)(l:Θ):Obj:=⟨.type "tuple",none,.seq ⟨(l.zipIdx t).map λx=>.str x.1 x.2⟩ 0,⟨[]⟩⟩
def cO(n q:Str)(t:Nat)(l a f:Int)(r u:Nat):Obj:=⟨.type "code",none,.fields ⟨[.str n t,.str q (t+1),.str "/claim/cut.py" (t+2),.int l 0,.int a 0,.int 0 0,.int 0 0,.int f 0,.ref r,.bool true,.int 181 0,.ref (r+1),.none,.ref (r+2),.ref (r+3),.ref (r+4),.int u 0,.int l 0,.str "/claim/cut.py" (u+1)]⟩,⟨[]⟩⟩
def o11:Obj:={ cls:=.type "tuple",data:=.seq #[] }
def o12:Obj:={ cls:=.none,data:=.fields #[] }
noncomputable def o13:Obj:={ cls:=.type "code",data:=.fields #[.str "<module>" 182,.str "<module>" 183,.str "/claim/cut.py" 184,.int 1 0,.int 0 0,.int 0 0,.int 0 0,.int 0 0,.ref 11,.bool false,.int 181 0,.ref 12,.none,.none,.none,.none,.int 185 0,.int 1 0,.str "/claim/cut.py" 186] }
noncomputable def o14:Obj:={ cls:=.type "frame",slots:=#[some (.ref 13),some (.ref 3),some (.ref 3),none,some (.str "__main__" 164),none,some (.ref 0)] }
def cP(n q:Str)(t:Nat)(l a f:Int)(r u:Nat):Obj:=⟨.type "code",none,.fields ⟨[.str n t,.str q (t+1),.str "/claim/cut.py" (t+2),.int l 0,.int a 0,.int 0 0,.int 0 0,.int f 0,.ref r,.bool true,.int 181 0,.ref (r+1),.none,.none,.none,.ref (r+2),.int u 0,.int l 0,.str "/claim/cut.py" (u+1)]⟩,⟨[]⟩⟩
def dE(P:Params)(x:Str)(t:Nat)(v:Value):DictEntry:=⟨PyData.keyHash P x,.str x t,v⟩
abbrev lf(o:Obj):BT:=.node o .nil .nil
def tr(P:Params):BT:=.node (boot_o_0 P)
 (.node (boot_o_1 P) (.node (boot_o_3 P) (lf (boot_o_7 P)) (lf o11)) (.node (boot_o_5 P) (lf (boot_o_9 P)) (lf o13)))
 (.node (boot_o_2 P) (.node (boot_o_4 P) (lf (boot_o_8 P)) (lf o12)) (.node (boot_o_6 P) (lf (boot_o_10 P)) (lf o14)))
def S0(w:World)(os:OsState):Shared:=⟨boot_heap w.params,Array.mk [],boot_drawn,boot_toks,os⟩
def Sa(w:World)(os:OsState):Shared:=⟨⟨Array.mk [boot_o_0 w.params,boot_o_1 w.params,boot_o_2 w.params,boot_o_3 w.params,boot_o_4 w.params,boot_o_5 w.params,boot_o_6 w.params,boot_o_7 w.params,boot_o_8 w.params,boot_o_9 w.params,boot_o_10 w.params,o11,o12,o13,o14],{}⟩,Array.mk [],{},187,os⟩
def Sb(w:World)(os:OsState):SharedT:=⟨tr w.params,15,{},⟨[]⟩,{},187,os⟩
def env(p:Program):Env:={ scope:=p.main.scope,locals:=mainNs,globals:=mainNs,cells:=[],code:=.ref 13,frame:=some 14 }
def cE(p:Program):Code:=.body (behindTheImports p) (env p)
abbrev ann:Ψ:=some (.ref 6)
abbrev B:List Frame:=[topFrame z]
def size(w:World):((boot_heap w.params).isNs mainGlobals&&(Array.mk [] : Array GenState).size==0,(boot_heap w.params).objs.size,(boot_heap w.params).nsMap mainGlobals "__annotations__")=(true,11,ann):=by
 rw[Fast.te8920871248978507458];kernel_rfl
def oX(p:Program)(w:World)(M:Nat)(S:SharedT)(l:List Stmt)(q:Pos)(G:Shared->Prop):Prop:=∃s,topRun treeTable p w 11 ann M S.abs (restOf l (env p) (cE p) q B)=some s/\G s
def oX.cut{p:Program}{w:World}{n M:Nat}{S S':SharedT}{l1 l2:List Stmt}{q q':Pos}{G:Shared->Prop}(h:segRunT treeTable p w 11 ann 1 n S (piecesOf l1 (env p) (cE p) q B)=some (.next,S',cE p,q'))(k:oX p w M S' l2 q' G):oX p w (n+M) S (l1++l2) q G :=
 let⟨s,a,b⟩:=k
 ⟨s,piece_app (segRun_of h) a,b⟩
def oX.cutAt{p:Program}{w:World}{n m M:Nat}{S S':SharedT}{l:List Stmt}{q q':Pos}{G:Shared->Prop}(h:segRunT treeTable p w 11 ann 1 n S (piecesOf (l.take m) (env p) (cE p) q B)=some (.next,S',cE p,q'))(k:oX p w M S' (l.drop m) q' G):oX p w (n+M) S l q G:=by
 have:=oX.cut h k;rwa[List.take_append_drop]at this
def Good{α:Type}(p q:Program)(loose:Θ)(Xt:Shared->Bool)(Yf:Shared->α)(Ya:World->α)(g0:Bool)(w:World)(s:Shared):Prop :=
 (staticsOk (importedModules p.main.body) (boot_heap w.params) s.heap&&namesBound p s.heap&&gensDone s&&laidKept (boot_heap w.params) s.heap,openSeen q loose (importedModules p.main.body) Xt g0 s,Yf s)=(true,openGood q loose,Ya w)
def oX.last{p q:Program}{loose:Θ}{Xt:Shared->Bool}{α:Type}{Yf:Shared->α}{Ya:World->α}{g0:Bool}{w:World}{n k:Nat}{S:SharedT}{l:List Stmt}{q0 e:Pos}
 (big:(segRunT treeTable p w 11 ann 1 n S (piecesOf l (env p) (cE p) q0 B)).map (λr =>
    (r.1,r.2.2.1,r.2.2.2,(topRun treeTable p w 11 ann k r.2.1.abs ⟨doneF .next,cE p,e,B⟩).map λs =>
     (staticsOk (importedModules p.main.body) (boot_heap w.params) s.heap&&namesBound p s.heap&&gensDone s&&laidKept (boot_heap w.params) s.heap,openSeen q loose (importedModules p.main.body) Xt g0 s,Yf s))) =
   some (.next,cE p,e,some (true,openGood q loose,Ya w))):oX p w (n+k) S l q0 (Good p q loose Xt Yf Ya g0 w):=by
 obtain⟨⟨f,sT,c,ps⟩,r1,r2⟩:=Option.map_eq_some_iff.mp big;obtain⟨rfl,rfl,rfl,r3⟩ : f=.next/\c=cE p/\ps=e/\_:=by simpa only[Prod.mk.injEq]using r2
 obtain⟨s,t1,t2⟩:=Option.map_eq_some_iff.mp r3;have q1:=piece_app (rest:=[]) (segRun_of r1) (piece_nil t1);rw[List.append_nil]at q1;exact⟨s,q1,t2⟩
def ZL{p q:Program}{loose:Θ}{Xt:Shared->Bool}{α:Type}{Yf:Shared->α}{Ya:World->α}{N:Nat}{g0:Bool}{a b M:Nat}
 (jS:∀w:World,(fencedOpening treeTable p w N).map (λs=>(s.heap,s.gens,s.drawn,s.toks))=some (boot_heap w.params,Array.mk [],boot_drawn,boot_toks))
 (pre:∀w:World,(λos=>topGo treeTable p w 11 ann a (S0 w os) (topStub p))=λos=>some (Sa w os,⟨denote treeTable (cE p),cE p,z,B⟩))
 (block:∀w:World,(λos=>segRun treeTable p w 11 ann 1 b (Sa w os) (blockOf (behindTheImports p) (env p) (cE p) z B))=λos=>some (.next,(Sb w os).abs,cE p,z))
 (iP:∀(w:World)(os:OsState),oX p w M (Sb w os) (behindTheImports p) z (Good p q loose Xt Yf Ya g0 w))
 (le:Nat.ble (a+(b+M)) N=true):LeftO p q loose Xt Yf Ya N g0:=λw=>by
 obtain⟨⟨h,gs,d,ks,os⟩,e1,e2⟩:=Option.map_eq_some_iff.mp (jS w);obtain⟨rfl,rfl,rfl,rfl⟩ : h=boot_heap w.params/\gs=Array.mk []/\d=boot_drawn/\ks=boot_toks:=by simpa using e2
 obtain⟨z1,z2,z3⟩ : _/\_/\_:=by simpa only[Prod.mk.injEq]using size w
 obtain⟨s,q1,t2⟩:=iP w os;obtain⟨l1,l2,l3⟩ : _/\_/\_:=by simpa only[Good,Prod.mk.injEq]using t2
 have q2:=go_top (congrFun (pre w) os) (piece_block (congrFun (block w) os) q1);have q3:=topRun_mono (N-(a+(b+M))) _ _ _ _ q2;rw[show a+(b+M)+(N-(a+(b+M)))=N by have:=UH le;omega]at q3;have t:topFrom treeTable p w N ⟨boot_heap w.params,Array.mk [],boot_drawn,boot_toks,os⟩=some s:=by
  unfold topFrom;dsimp only;rw[z1,z2,z3,show topRun treeTable p w 11 ann N ⟨boot_heap w.params,Array.mk [],boot_drawn,boot_toks,os⟩ (topStub p)=some s from q3];show(match staticsOk (importedModules p.main.body) (boot_heap w.params) s.heap&&namesBound p s.heap&&gensDone s&&laidKept (boot_heap w.params) s.heap with|true=>_|false=>_)=_;rw[l1]
 unfold openEnds;rw[e1];show(topFrom treeTable p w N _).map _=_;rw[t];exact ZH some (Prod.ext l2 l3)
end
end L2.Once
namespace L2
open PySem
def jN(s:Stmt):Arguments:=match s with
 |.FunctionDef _ a _ _ _ _ _ _ _ _=>a
 |_=>{ posonlyargs:=[],args:=[],vararg:=none,kwonlyargs:=[],kw_defaults:=[],kwarg:=none,defaults:=[] }
def fJ(s:Stmt):List Stmt:=match s with
 |.FunctionDef _ _ b _ _ _ _ _ _ _=>b
 |_=>[]
def bG(s:Stmt):Scope:=match s with
 |.FunctionDef _ _ _ _ _ _ sc _ _ _=>sc
 |_=>{ kind:=.function,names:=[],isGenerator:=false,isCoroutine:=false }
end L2
namespace K36
open PySem L2
def top(i:Nat):Stmt:=PySem.Challenge.pw_chancehall_k36_chances_of_a_plan.main.body.getD i (.Pass ⟨0,0,0,0⟩)
def gK(i j:Nat):Stmt:=match top i with|.ClassDef _ _ _ b _ _ _ _ _ _ _=>b.getD j (.Pass ⟨0,0,0,0⟩)|_=>.Pass ⟨0,0,0,0⟩
abbrev gj:Θ:=["thing"]
abbrev WD:Θ:=gj
abbrev cW:Θ:=["one","other"]
abbrev Nk:Θ:=cW.append ["left","right","rest"]
abbrev oF:Θ:=["top","bottom"]
abbrev Rk:Θ:=oF.append ["common"]
abbrev jq:Θ:=["thing"]
abbrev Bc:Θ:=jq.append ["top","bottom"]
abbrev CZ:Θ:=["one","other"]
abbrev aiw:Θ:=CZ
abbrev qp:Θ:=["one","other"]
abbrev ae1:Θ:=qp
abbrev v8:Θ:=["one","other"]
abbrev afo:Θ:=v8
abbrev B_:Θ:=["one","other"]
abbrev ahJ:Θ:=B_
abbrev uf:Θ:=["one","other"]
abbrev aeU:Θ:=uf
abbrev ud:Θ:=["fractions"]
abbrev YL:Θ:=ud.append ["bottom","one"]
abbrev zm:Θ:=["fractions"]
abbrev Ru:Θ:=zm.append ["leveled"]
abbrev vq:Θ:=["thing","many"]
abbrev Xe:Θ:=vq
abbrev fB:Θ:=["hall","plan"]
abbrev uw:Θ:=fB.append ["room","thing"]
abbrev pL:Θ:=["tops","bottom"]
abbrev Tp:Θ:=pL.append ["common","top"]
abbrev mR:Θ:=["row","often"]
abbrev v9:Θ:=mR
abbrev oH:Θ:=["row","other","often"]
abbrev Bg:Θ:=oH.append ["bottom","common","own","added","tops"]
abbrev mK:Θ:=["leveled","step"]
abbrev yM:Θ:=mK.append ["row"]
abbrev jX:Θ:=["row","column"]
abbrev wg:Θ:=jX
abbrev iT:Θ:=["leveled"]
abbrev jy:Θ:=iT
abbrev j7:Θ:=["leveled","place","column"]
abbrev BK:Θ:=j7.append ["row"]
abbrev tO:Θ:=["leveled","steps","step"]
abbrev Oi:Θ:=tO
abbrev mH:Θ:=["leveled","steps","place","found","column"]
abbrev Gh:Θ:=mH.append ["first"]
abbrev iV:Θ:=["leveled","steps","place","column"]
abbrev xT:Θ:=iV.append ["row","often"]
abbrev qJ:Θ:=["rows","wide"]
abbrev FP:Θ:=qJ.append ["leveled","steps","place","column","found"]
abbrev oK:Θ:=["rows"]
abbrev Ww:Θ:=oK
abbrev jt:Θ:=["rows","rights"]
abbrev tD:Θ:=jt
abbrev lV:Θ:=["end","wide"]
abbrev xO:Θ:=lV.append ["begins","row","columns"]
abbrev qP:Θ:=["end","begins","wide"]
abbrev Fj:Θ:=qP.append ["row"]
abbrev mC:Θ:=["end","begins","wide"]
abbrev Gg:Θ:=mC.append ["answer","row","column"]
abbrev jC:Θ:=["many"]
abbrev j8:Θ:=jC
abbrev jH:Θ:=["rows","rights"]
abbrev Aa:Θ:=jH.append ["wide","end","begins"]
abbrev d_:Θ:=["hall","goals"]
abbrev uY:Θ:=d_.append ["marks","goal"]
abbrev yx:Θ:=["door","steps"]
abbrev Rm:Θ:=yx
abbrev nF:Θ:=["doors","steps"]
abbrev Eu:Θ:=nF
abbrev oO:Θ:=["marks","leads","joins"]
abbrev pP:Θ:=oO.append ["steps","coming","many","room"]
abbrev iR:Θ:=["hall","plan"]
abbrev qz:Θ:=iR
abbrev mQ:Θ:=["share","chosen"]
abbrev Gq:Θ:=mQ.append ["rows","room","offer","behind","chance"]
abbrev kj:Θ:=["marks","chosen"]
abbrev iB:Θ:=kj.append ["leads","steps"]
abbrev eG:Θ:=["hall","marks","plan"]
abbrev qN:Θ:=eG.append ["rights"]
abbrev fD:Θ:=["hall","goals","plan"]
abbrev uX:Θ:=fD.append ["marks"]
abbrev lK:Θ:=["thing"]
abbrev FN:Θ:=lK
abbrev iZ:Θ:=["name","pay"]
abbrev uH:Θ:=iZ
abbrev eY:Θ:=["room"]
abbrev Bx:Θ:=eY
abbrev gD:Θ:=["chance"]
abbrev I8:Θ:=gD
abbrev jA:Θ:=["pairs"]
abbrev rP:Θ:=jA.append ["room","chance"]
abbrev jK:Θ:=["pairs"]
abbrev z8:Θ:=jK.append ["chances","room","chance"]
abbrev ju:Θ:=["share"]
abbrev LR:Θ:=ju
abbrev kh:Θ:=["rooms"]
abbrev u5:Θ:=kh.append ["numbers","room","name"]
abbrev g8:Θ:=["door","numbers"]
abbrev vI:Θ:=g8.append ["numbered","name","chance"]
abbrev lW:Θ:=["doors","numbers"]
abbrev Gf:Θ:=lW.append ["taken","told","door"]
abbrev zL:Θ:=["_law_script","_law_k"]
abbrev VR:Θ:=zL
abbrev gC:Θ:=["_law_cell_here","_law_many"]
abbrev U7:Θ:=gC.append ["_law_found","_law_number","_law_digits","_law_k"]
abbrev Eh:Θ:=["_law_one","_law_other"]
abbrev agm:Θ:=Eh.append ["_law_low","_law_high"]
abbrev pN:Θ:=["_law_top","_law_bottom"]
abbrev Uq:Θ:=pN.append ["_law_common"]
abbrev vV:Θ:=["_law_cell_here","_law_many"]
abbrev ux:Θ:=vV.append ["_law_letters","_law_xs","_law_base","_law_at","_law_step"]
abbrev Dc:Θ:=["_law_cell_here","_law_many"]
abbrev u9:Θ:=Dc.append ["_law_xs","_law_rooms","_law_pay","_law_pairs","_law_bottom","_law_part","_law_weights"]
abbrev wj:Θ:=["_law_script","_law_at","_law_many","_law_most"]
abbrev R8:Θ:=wj.append ["_law_rooms","_law_first","_law_cells","_law_cell_here","_law_room"]
abbrev yw:Θ:=["_law_title","_law_door_here","_law_names_here"]
abbrev Cm:Θ:=yw.append ["_law_told","_law_sort","_law_pay","_law_pairs"]
abbrev Cv:Θ:=["_law_cell_here","_law_share","_law_rooms"]
abbrev W2:Θ:=Cv.append ["_law_names_here","_law_found","_law_k","_law_titles"]
abbrev Dz:Θ:=["_law_cell_here"]
abbrev Xp:Θ:=Dz.append ["_law_xs"]
abbrev Bw:Θ:=["_law_door_here"]
abbrev ac2:Θ:=Bw.append ["_law_found","_law_room","_law_chance","_law_top","_law_bottom"]
abbrev xR:Θ:=["_law_cell_here","_law_many"]
abbrev Pg:Θ:=xR.append ["_law_xs"]
abbrev yO:Θ:=["_law_found"]
abbrev Dl:Θ:=yO
abbrev jr:Θ:=["_law_found"]
abbrev Mj:Θ:=jr
abbrev mL:Θ:=["_law_found","_law_many"]
abbrev yG:Θ:=mL
abbrev oJ:Θ:=["_law_rooms"]
abbrev pR:Θ:=oJ
abbrev Cr:Θ:=["_law_ways_here","_law_chances_here"]
abbrev acO:Θ:=Cr.append ["_law_top","_law_bottom","_law_room","_law_chance","_law_part"]
abbrev wz:Θ:=["_law_ways_here","_law_plan"]
abbrev Ye:Θ:=wz.append ["_law_found","_law_k"]
abbrev Br:Θ:=["_law_taken_here","_law_goals_here"]
abbrev RW:Θ:=Br.append ["_law_found","_law_turn","_law_k"]
abbrev qy:Θ:=["_law_found","_law_ways_here","_law_goals_here","_law_plan"]
abbrev Oh:Θ:=qy.append ["_law_taken_here","_law_near_here","_law_k","_law_due"]
abbrev tX:Θ:=["_law_cell_here","_law_rooms"]
abbrev Vg:Θ:=tX.append ["_law_xs","_law_found","_law_k"]
abbrev m_:Θ:=["_law_hall_here","_law_goals_here","_law_plan"]
abbrev NP:Θ:=m_.append ["_law_found","e"]
abbrev tV:Θ:=["_law_cell_here","_law_plan","_law_doors_here"]
abbrev Ti:Θ:=tV.append ["_law_at","_law_some","_law_odd_here"]
abbrev JT:Θ:=["_law_cell_here","_law_many"]
abbrev amV:Θ:=JT
abbrev jJ:Θ:=["_law_hall_here","_law_many","_law_goals_here","_law_plans","_law_cell_here"]
abbrev Ae:Θ:=jJ.append ["_law_odd_here","_law_at","_law_plan","_law_told"]
abbrev R9:Θ:=["_law_script"]
abbrev abj:Θ:=R9.append ["_law_rooms","_law_ways_here","_law_share","_law_hall_here","_law_goals_here","_law_plans","_law_handed","_law_held","_law_doors_here","_law_cell_here","_law_kept","_law_odd_here","_law_due","_law_found","_law_which"]
abbrev jT:Θ:=["self","name","pay"]
abbrev wN:Θ:=jT
abbrev lY:Θ:=["self"]
abbrev Uc:Θ:=lY
abbrev Dq:Θ:=["self","room"]
abbrev dX:Θ:=Dq
abbrev mO:Θ:=["self","name","pay","room"]
abbrev vZ:Θ:=mO
abbrev gR:Θ:=["self","name","pay","pairs"]
abbrev um:Θ:=gR
abbrev mq:Θ:=["self","name","pay","chance","room","other"]
abbrev Gr:Θ:=mq
abbrev mj:Θ:=["self","name","pay","rooms"]
abbrev wY:Θ:=mj
abbrev mX:Θ:=["self","share","rooms"]
abbrev yU:Θ:=mX
abbrev fj:Θ:=["self"]
abbrev VG:Θ:=fj
abbrev Mg:Θ:=["self","name"]
abbrev Cy:Θ:=Mg
abbrev dh:Θ:=["self","room"]
abbrev Di:Θ:=dh
abbrev G9:Θ:=["self","room","name"]
abbrev vW:Θ:=G9
abbrev gA:Θ:=["self","room"]
abbrev sJ:Θ:=gA
abbrev jw:Θ:=["self","room"]
abbrev Mr:Θ:=jw
abbrev jG:Θ:=["self","room"]
abbrev Nb:Θ:=jG
end K36
namespace H36
open PySem PySem.W L2 L2.Once K36
abbrev p:Program:=PySem.Challenge.pw_chancehall_k36_chances_of_a_plan
noncomputable section
def dR(P:Params)(x:Str)(t m:Nat):DictEntry:=dE P x t (.ref m)
def wD(l:List DictEntry)(n:Nat):Obj:=⟨.type "dict",none,.dict ⟨l⟩ n,⟨[]⟩⟩
def i3(a b:Nat)(c:Nat)(l:Δ):Δ:=.int a 0::.int b 0::.ref c::l
def nd(o:Obj)(l r:BT):BT:=.node o l r
def n1(o x:Obj):BT:=.node o (lf x) .nil
noncomputable def wA:Obj:=⟨.type "builtin_function_or_method",none,.fields ⟨[.builtin "type.__prepare__",.type "type"]⟩,⟨[]⟩⟩
def wB(n:Nat):Obj:=⟨.type "builtin_function_or_method",none,.fields ⟨[.builtin "object.__init_subclass__",.ref n]⟩,⟨[]⟩⟩
def wC(n:Str)(t l r u:Nat):Obj:=⟨.type "code",none,.fields ⟨[.str n t,.str n (t+1),.str "/claim/cut.py" (t+2),.int l 0,.int 0 0,.int 0 0,.int 0 0,.int 0 0,.ref r,.bool false,.int 181 0,.ref (r+1),.none,.none,.none,.none,.int u 0,.int l 0,.str "/claim/cut.py" (u+1)]⟩,⟨[]⟩⟩
def wF(c d:Nat)(n:Str)(t:Nat):Obj:=⟨.type "frame",none,.plain,⟨[some (.ref c),some (.ref 3),some (.ref d),none,some (.str n t),none,some (.ref 0)]⟩⟩
def wG(t n:Nat):Obj:=⟨.type "getset_descriptor",none,.fields ⟨[.str "__weakref__" t,.ref n,.builtin "ExceptionGroup.__weakref__",.none]⟩,⟨[]⟩⟩
def wK(n:Str)(b m:Δ)(d:Nat)(s:Δ)(o:Ψ)(t u:Nat)(x:String):Obj:=⟨.type "type",none,.cls ⟨n,b,m,d,n,true,[],s,false,none,false⟩,⟨[o,none,some (.str n t),some (.str n u),some (.builtin x),some (.bool true)]⟩⟩
def wS(n:Nat):Obj:=⟨.type "super",none,.fields ⟨[.ref n,.ref n,.ref n]⟩,⟨[]⟩⟩
def wT(n:Nat):Obj:=⟨.type "tuple",none,.seq ⟨[.ref n]⟩ 0,⟨[]⟩⟩
def fO(n q:Str)(s:Stmt)(m:Value)(c:Nat):Obj:=⟨.type "function",none,.func (fnOf n q (jN s) (fJ s) (bG s) .none .none .none m none (.ref c) .none),⟨[]⟩⟩
def fT(n q:Str)(s:Stmt):Obj:=⟨.none,none,.func { fnOf n q (jN s) (fJ s) (bG s) .none .none .none .none none .none .none with globals:=0,builtins:=0 },⟨[]⟩⟩
def fV(n:Str)(k:Nat)(m:Value)(c:Nat):Obj:=fO n n (top k) m c
def fU(n:Str)(k:Nat):Obj:=fT n n (top k)
def cU(n:Str)(t:Nat)(l a f:Int)(r u:Nat):Obj:=cO n n t l a f r u
def cV(n:Str)(t:Nat)(l a f:Int)(r u:Nat):Obj:=cP n n t l a f r u
def dM(P:Params)(l:List (String×Nat×Nat)):List DictEntry:=l.map λx=>dR P (Str.ofString x.1) x.2.1 x.2.2
def dC(P:Params)(a:Nat)(m:Value)(n:Str)(l:Int)(r:List DictEntry):List DictEntry:=dE P "__module__" a m::dE P "__qualname__" (a+2) (.str n (a+1))::dE P "__firstlineno__" (a+4) (.int l (a+3))::r
def dF(P:Params)(a:Nat)(m:Value)(l:Int)(r:List DictEntry):List DictEntry:=dE P "__module__" a m::dE P "__firstlineno__" (a+4) (.int l (a+3))::r
def wX(n:Str)(c d o t u:Nat):Obj:=wK n [.ref 31] [.ref c,.ref 31,.type "ValueError",.type "Exception",.type "BaseException",.type "object"] d [] (some (.ref o)) t u "ValueError.__new__"
def mo0:Value:=.str "__main__" 164
def mo1:Value:=.str "chancehall.errors" 194
def mo2:Value:=.str "chancehall.wholes" 328
def mo3:Value:=.str "chancehall.ratios" 348
def mo4:Value:=.str "chancehall.levels" 414
def mo5:Value:=.str "chancehall.plans" 430
def mo6:Value:=.str "chancehall.papers" 450
def mo7:Value:=.str "chancehall.solving" 542
def mo8:Value:=.str "chancehall.ways" 602
def mo9:Value:=.str "chancehall.worths" 632
def ai6:Value:=.str "chancehall.goals" 653
def an3:Value:=.str "chancehall.words" 677
def qX:Value:=.str "chancehall.doors" 687
def Fx:Value:=.str "chancehall.halls" 874
def mY:Value:=.str "law_chancehall_k36_chances_of_a_plan" 989
noncomputable def zM(P:Params)(l:List (String×Nat×Nat))(n:Nat):Obj:=wD (dE P "__name__" 165 mY::dE P "__doc__" 166 .none::dE P "__package__" 167 .none::dE P "__loader__" 168 (.builtin "__main__.__loader__#opaque")::dE P "__spec__" 169 .none::dR P "__annotations__" 170 6::dR P "__builtins__" 171 4::dE P "__file__" 173 (.str "/claim/cut.py" 172)::dE P "__cached__" 174 .none::dM P [("_wall",193,21),("HallError",213,31),("NoNumber",229,44),("NoName",245,56),("NoChance",261,68),("NoShare",277,80),("NoRoom",302,99),("NoPlan",327,118),("is_whole",336,127),("divisor",347,134),("NOUGHT",352,135),("ONE",355,136),("ratio",364,143),("is_ratio",373,150),("plus",381,157),("minus",389,164),("times",397,171),("over",405,178),("under",413,185),("level",421,190),("total",429,197),("fits",439,204),("check_plan",449,211),("lowest",457,216),("row_times",463,221),("row_plus",469,226),("take_step",478,233),("number_at",486,240),("fractions_of",492,245),("first_from",502,252),("go_on",511,259),("begin_row",523,266),("clear_column",535,273),("reduced",541,278),("width_of",550,285),("with_rights",556,290),("begins_of",562,295),("odd_row",572,302),("answer_of",584,309),("single_rows",590,314),("only_answer",601,321),("goal_marks",613,328),("meets",619,333),("by_some",625,338),("steps_to",631,343),("chosen_doors",639,348),("left_rows",652,355),("on_the_way",660,360),("plan_chances",666,365),("chances_of",676,372)]++dE P "LONGEST_WORD" 680 (.int 8 679)::dM P ([("is_word",686,377),("check_head",696,384),("check_room_name",703,391),("check_chance",710,398),("check_pairs",716,403),("joined_ways",722,408),("Door",769,439),("Sure",796,460),("Mixed",823,479),("Toss",851,498),("Even",873,515),("check_share",882,524),("numbers_of",892,531),("numbered_ways",903,538),("offers_of",914,545),("Hall",988,600),("_law_cell",998,611),("_law_stream",1010,618),("_law_gcd",1020,625),("_law_ratio",1029,632),("_law_names",1035,637),("_law_door",1041,642),("_law_doors",1047,647),("_law_built",1053,652),("_law_hall",1059,657),("_law_size",1067,664),("_law_ways",1073,669),("_law_goals",1079,674),("_law_whole",1086,681),("_law_is_fraction",1093,688),("_law_fractions",1099,693),("_law_all_ways",1105,698),("_law_mean",1118,705),("_law_taken",1128,712),("_law_near",1134,717),("_law_chances",1148,724),("_law_chosen",1159,731),("_law_refused",1170,738),("_law_spoilt",1182,745),("_law_odd",1190,752)]++l)++[]) n
def ao0(P:Params):Obj:=zM P [] 100
def q21:Obj:=fV "_wall" 0 mo0 20
def q22:Obj:=⟨.type "tuple",none,.seq ⟨.type "ValueError"::[]⟩ 0,⟨[]⟩⟩
def q24(P:Params):Obj:=wD (dC P 203 mo1 "HallError" 5 <|dR P "__static_attributes__" 208 29::[]) 4
noncomputable def q30(P:Params):Obj:=wD (dF P 203 mo1 5 <|dR P "__static_attributes__" 208 29::dR P "__weakref__" 210 32::dE P "__doc__" 211 .none::[]) 3
noncomputable def q31:Obj:=wK "HallError" [.type "ValueError"] [.ref 31,.type "ValueError",.type "Exception",.type "BaseException",.type "object"] 30 [.ref 44,.ref 56,.ref 68,.ref 80,.ref 99,.ref 118] (some (.ref 22)) 196 204 "ValueError.__new__"
def q37(P:Params):Obj:=wD (dC P 221 mo1 "NoNumber" 7 <|dR P "__static_attributes__" 226 42::[]) 4
noncomputable def q43(P:Params):Obj:=wD (dF P 221 mo1 7 <|dR P "__static_attributes__" 226 42::dE P "__doc__" 227 .none::[]) 2
def q44:Obj:=wX "NoNumber" 44 43 35 214 222
def q49(P:Params):Obj:=wD (dC P 237 mo1 "NoName" 9 <|dR P "__static_attributes__" 242 54::[]) 4
noncomputable def q55(P:Params):Obj:=wD (dF P 237 mo1 9 <|dR P "__static_attributes__" 242 54::dE P "__doc__" 243 .none::[]) 2
def q56:Obj:=wX "NoName" 56 55 47 230 238
def q61(P:Params):Obj:=wD (dC P 253 mo1 "NoChance" 11 <|dR P "__static_attributes__" 258 66::[]) 4
noncomputable def q67(P:Params):Obj:=wD (dF P 253 mo1 11 <|dR P "__static_attributes__" 258 66::dE P "__doc__" 259 .none::[]) 2
def q68:Obj:=wX "NoChance" 68 67 59 246 254
def q73(P:Params):Obj:=wD (dC P 269 mo1 "NoShare" 13 <|dR P "__static_attributes__" 274 78::[]) 4
noncomputable def q79(P:Params):Obj:=wD (dF P 269 mo1 13 <|dR P "__static_attributes__" 274 78::dE P "__doc__" 275 .none::[]) 2
def q80:Obj:=wX "NoShare" 80 79 71 262 270
noncomputable def q85(P:Params):Obj:=wD (dC P 285 mo1 "NoRoom" 15 <|dR P "__init__" 297 96::dR P "__static_attributes__" 299 97::[]) 5
def q95:Obj:=cO "__init__" "NoRoom.__init__" 290 17 2 3 90 295
def q96:Obj:=fO "__init__" "NoRoom.__init__" (gK 7 0) mo1 95
noncomputable def q98(P:Params):Obj:=wD (dF P 285 mo1 15 <|dR P "__init__" 297 96::dR P "__static_attributes__" 299 97::dE P "__doc__" 300 .none::[]) 2
def q99:Obj:=wX "NoRoom" 99 98 83 278 286
noncomputable def aph(P:Params):Obj:=wD (dC P 310 mo1 "NoPlan" 20 <|dR P "__init__" 322 115::dR P "__static_attributes__" 324 116::[]) 5
def anD:Obj:=cO "__init__" "NoPlan.__init__" 315 22 2 3 109 320
def ajU:Obj:=fO "__init__" "NoPlan.__init__" (gK 8 0) mo1 114
noncomputable def ang(P:Params):Obj:=wD (dF P 310 mo1 20 <|dR P "__init__" 322 115::dR P "__static_attributes__" 324 116::dE P "__doc__" 325 .none::[]) 2
def alY:Obj:=wX "NoPlan" 118 117 102 303 311
def ajL:Obj:=fV "is_whole" 10 mo2 126
def ak5:Obj:=tN 340 Nk
def al7:Obj:=fV "divisor" 11 mo2 133
def akT:Obj:=⟨.type "tuple",none,.seq ⟨.int 0 350::.int 1 351::[]⟩ 0,⟨[]⟩⟩
def akY:Obj:=⟨.type "tuple",none,.seq ⟨.int 1 353::.int 1 354::[]⟩ 0,⟨[]⟩⟩
def amh:Obj:=fV "ratio" 15 mo3 142
def akE:Obj:=fV "is_ratio" 16 mo3 149
def akC:Obj:=fV "plus" 17 mo3 156
def anG:Obj:=fV "minus" 18 mo3 163
def alJ:Obj:=fV "times" 19 mo3 170
def aj6:Obj:=fV "over" 20 mo3 177
def aji:Obj:=fV "under" 21 mo3 184
def al6:Obj:=fV "level" 23 mo4 189
def ajh:Obj:=fV "total" 24 mo4 196
def amY:Obj:=fV "fits" 26 mo5 203
def amt:Obj:=cU "check_plan" 440 80 2 3 205 447
def alU:Obj:=fV "check_plan" 27 mo5 210
def ajp:Obj:=fV "lowest" 29 mo6 215
def amN:Obj:=cV "row_times" 458 93 2 3 217 461
def ajl:Obj:=fV "row_times" 30 mo6 220
def alD:Obj:=fV "row_plus" 31 mo6 225
def am7:Obj:=cU "take_step" 470 102 2 3 227 476
def ajJ:Obj:=fV "take_step" 32 mo6 232
def anj:Obj:=cU "number_at" 479 111 2 3 234 484
def ajH:Obj:=fV "number_at" 33 mo6 239
def akh:Obj:=cV "fractions_of" 487 113 1 3 241 490
def ajg:Obj:=fV "fractions_of" 34 mo6 244
def amC:Obj:=tN 496 BK
def alA:Obj:=cU "first_from" 493 115 3 3 246 500
def akj:Obj:=fV "first_from" 35 mo6 251
def anQ:Obj:=fV "go_on" 36 mo6 258
def akz:Obj:=tN 515 Gh
def am9:Obj:=cU "begin_row" 512 123 5 3 260 521
def ajK:Obj:=fV "begin_row" 37 mo6 265
def ak0:Obj:=tN 527 xT
def akI:Obj:=cU "clear_column" 524 129 4 3 267 533
def akk:Obj:=fV "clear_column" 38 mo6 272
def aju:Obj:=fV "reduced" 39 mo6 277
def aml:Obj:=cU "width_of" 544 146 1 3 279 548
def alq:Obj:=fV "width_of" 41 mo7 284
def aku:Obj:=cV "with_rights" 551 150 2 3 286 554
def akL:Obj:=fV "with_rights" 42 mo7 289
def akR:Obj:=cV "begins_of" 557 152 2 3 291 560
def ali:Obj:=fV "begins_of" 43 mo7 294
def amL:Obj:=fV "odd_row" 44 mo7 301
def anS:Obj:=tN 576 Gg
def ajR:Obj:=cU "answer_of" 573 164 3 3 303 582
def amP:Obj:=fV "answer_of" 45 mo7 308
def amm:Obj:=cV "single_rows" 585 169 1 3 310 588
def amg:Obj:=fV "single_rows" 46 mo7 313
def ak4:Obj:=tN 594 Aa
def alg:Obj:=cU "only_answer" 591 171 2 3 315 599
def anV:Obj:=fV "only_answer" 47 mo7 320
def amf:Obj:=cU "goal_marks" 604 179 2 3 322 611
def anU:Obj:=fV "goal_marks" 49 mo8 327
def anY:Obj:=fV "meets" 50 mo8 332
def amH:Obj:=fV "by_some" 51 mo8 337
def amJ:Obj:=cV "steps_to" 626 189 3 3 339 629
def ajt:Obj:=fV "steps_to" 52 mo8 342
def alR:Obj:=cV "chosen_doors" 634 200 2 3 344 637
def al5:Obj:=fV "chosen_doors" 54 mo9 347
def ajz:Obj:=tN 643 Gq
def aj5:Obj:=cU "left_rows" 640 202 2 3 349 650
def alv:Obj:=fV "left_rows" 55 mo9 354
def al8:Obj:=cV "on_the_way" 655 210 2 3 356 658
def akd:Obj:=fV "on_the_way" 57 ai6 359
def anJ:Obj:=cV "plan_chances" 661 214 3 3 361 664
def ajG:Obj:=fV "plan_chances" 58 ai6 364
def amb:Obj:=cU "chances_of" 667 217 3 3 366 674
def akW:Obj:=fV "chances_of" 59 ai6 371
def aj8:Obj:=fV "is_word" 62 an3 376
def akJ:Obj:=cU "check_head" 689 228 2 3 378 694
def amQ:Obj:=fV "check_head" 64 qX 383
def al2:Obj:=cU "check_room_name" 697 233 1 3 385 701
def ale:Obj:=fV "check_room_name" 65 qX 390
def ajN:Obj:=cU "check_chance" 704 236 1 3 392 708
def amx:Obj:=fV "check_chance" 66 qX 397
def ajk:Obj:=cV "check_pairs" 711 239 1 3 399 714
def alC:Obj:=fV "check_pairs" 67 qX 402
def akx:Obj:=cV "joined_ways" 717 245 1 3 404 720
def ajo:Obj:=fV "joined_ways" 68 qX 407
noncomputable def aoT(P:Params):Obj:=wD (dC P 730 qX "Door" 250 <|dM P [("__init__",743,422),("ways",750,429),("chance_to",758,436),("__static_attributes__",762,437)]++[]) 7
def anC:Obj:=cO "__init__" "Door.__init__" 735 252 3 3 416 741
def ame:Obj:=fO "__init__" "Door.__init__" (gK 69 0) qX 421
def alV:Obj:=fO "ways" "Door.ways" (gK 69 1) qX 428
def ank:Obj:=cO "chance_to" "Door.chance_to" 751 261 2 3 430 756
def amc:Obj:=fO "chance_to" "Door.chance_to" (gK 69 2) qX 435
noncomputable def ajO(P:Params):Obj:=wD (dF P 730 qX 250 <|dM P [("__init__",743,422),("ways",750,429),("chance_to",758,436),("__static_attributes__",762,437),("__dict__",764,440),("__weakref__",766,441)]++dE P "__doc__" 767 .none::[]) 4
noncomputable def ajs:Obj:=wK "Door" [.type "object"] [.ref 439,.type "object"] 438 [.ref 460,.ref 479] none 723 731 "object.__new__"
noncomputable def akU:Obj:=⟨.type "getset_descriptor",none,.fields ⟨.str "__dict__" 763::.ref 439::.builtin "function.__dict__"::.builtin "function.__dict__#set"::[]⟩,⟨[]⟩⟩
noncomputable def an7(P:Params):Obj:=wD (dC P 777 qX "Sure" 263 <|dR P "__init__" 791 457::dR P "__static_attributes__" 793 458::[]) 5
def alX:Obj:=cO "__init__" "Sure.__init__" 782 265 4 3 451 789
def amw:Obj:=fO "__init__" "Sure.__init__" (gK 70 0) qX 456
noncomputable def ajv(P:Params):Obj:=wD (dF P 777 qX 263 <|dR P "__init__" 791 457::dR P "__static_attributes__" 793 458::dE P "__doc__" 794 .none::[]) 2
noncomputable def aj0:Obj:=wK "Sure" [.ref 439] [.ref 460,.ref 439,.type "object"] 459 [] (some (.ref 444)) 770 778 "object.__new__"
noncomputable def apa(P:Params):Obj:=wD (dC P 804 qX "Mixed" 269 <|dR P "__init__" 818 476::dR P "__static_attributes__" 820 477::[]) 5
def aj7:Obj:=cO "__init__" "Mixed.__init__" 809 271 4 3 470 816
def akp:Obj:=fO "__init__" "Mixed.__init__" (gK 71 0) qX 475
noncomputable def aj4(P:Params):Obj:=wD (dF P 804 qX 269 <|dR P "__init__" 818 476::dR P "__static_attributes__" 820 477::dE P "__doc__" 821 .none::[]) 2
noncomputable def anu:Obj:=wK "Mixed" [.ref 439] [.ref 479,.ref 439,.type "object"] 478 [.ref 498,.ref 515] (some (.ref 463)) 797 805 "object.__new__"
noncomputable def an9(P:Params):Obj:=wD (dC P 831 qX "Toss" 275 <|dR P "__init__" 847 495::dR P "__static_attributes__" 848 496::[]) 5
def alO:Obj:=tN 839 Gr
def alo:Obj:=cO "__init__" "Toss.__init__" 836 277 6 3 489 845
def akH:Obj:=fO "__init__" "Toss.__init__" (gK 72 0) qX 494
noncomputable def amX(P:Params):Obj:=wD (dF P 831 qX 275 <|dR P "__init__" 847 495::dR P "__static_attributes__" 848 496::dE P "__doc__" 849 .none::[]) 2
noncomputable def anN:Obj:=wK "Toss" [.ref 479] [.ref 498,.ref 479,.ref 439,.type "object"] 497 [] (some (.ref 482)) 824 832 "object.__new__"
noncomputable def apC(P:Params):Obj:=wD (dC P 859 qX "Even" 281 <|dR P "__init__" 869 512::dR P "__static_attributes__" 870 513::[]) 5
def aly:Obj:=cP "__init__" "Even.__init__" 864 283 4 3 508 867
def alG:Obj:=fO "__init__" "Even.__init__" (gK 73 0) qX 511
noncomputable def aj2(P:Params):Obj:=wD (dF P 859 qX 281 <|dR P "__init__" 869 512::dR P "__static_attributes__" 870 513::dE P "__doc__" 871 .none::[]) 2
noncomputable def anL:Obj:=wK "Even" [.ref 479] [.ref 515,.ref 479,.ref 439,.type "object"] 514 [] (some (.ref 501)) 852 860 "object.__new__"
def alN:Obj:=cU "check_share" 876 286 1 3 518 880
def alQ:Obj:=fV "check_share" 75 Fx 523
def amR:Obj:=cU "numbers_of" 883 289 1 3 525 890
def alr:Obj:=fV "numbers_of" 76 Fx 530
def alH:Obj:=tN 896 vI
def ajB:Obj:=cU "numbered_ways" 893 297 2 3 532 901
def amr:Obj:=fV "numbered_ways" 77 Fx 537
def amn:Obj:=tN 907 Gf
def anm:Obj:=cU "offers_of" 904 304 2 3 539 912
def am3:Obj:=fV "offers_of" 78 Fx 544
noncomputable def ape(P:Params):Obj:=wD (dC P 922 Fx "Hall" 313 <|dM P [("__init__",932,557),("size",939,564),("names",946,571),("place",954,578),("check_room",962,585),("door_at",971,592),("offers",977,597),("__static_attributes__",981,598)]++[]) 11
def amS:Obj:=cP "__init__" "Hall.__init__" 927 315 3 3 553 930
def am6:Obj:=fO "__init__" "Hall.__init__" (gK 79 0) Fx 556
def ami:Obj:=fO "size" "Hall.size" (gK 79 1) Fx 563
def akO:Obj:=fO "names" "Hall.names" (gK 79 2) Fx 570
def anZ:Obj:=fO "place" "Hall.place" (gK 79 3) Fx 577
def akV:Obj:=cO "check_room" "Hall.check_room" 955 332 2 3 579 960
def alP:Obj:=fO "check_room" "Hall.check_room" (gK 79 4) Fx 584
def alp:Obj:=cO "door_at" "Hall.door_at" 963 336 3 3 586 969
def amW:Obj:=fO "door_at" "Hall.door_at" (gK 79 5) Fx 591
def alm:Obj:=cP "offers" "Hall.offers" 972 339 2 3 593 975
def am5:Obj:=fO "offers" "Hall.offers" (gK 79 6) Fx 596
noncomputable def alj(P:Params):Obj:=wD (dF P 922 Fx 313 <|dM P [("__init__",932,557),("size",939,564),("names",946,571),("place",954,578),("check_room",962,585),("door_at",971,592),("offers",977,597),("__static_attributes__",981,598),("__dict__",983,601),("__weakref__",985,602)]++dE P "__doc__" 986 .none::[]) 4
def akD:Obj:=wK "Hall" [.type "object"] [.ref 600,.type "object"] 599 [] none 915 923 "object.__new__"
noncomputable def ajA:Obj:=⟨.type "getset_descriptor",none,.fields ⟨.str "__dict__" 982::.ref 600::.builtin "function.__dict__"::.builtin "function.__dict__#set"::[]⟩,⟨[]⟩⟩
def ama:Obj:=cU "_law_cell" 991 343 2 3 605 996
def aln:Obj:=fV "_law_cell" 81 mY 610
def aj3:Obj:=tN 1002 U7
def anM:Obj:=cU "_law_stream" 999 345 2 3 612 1008
def alT:Obj:=fV "_law_stream" 82 mY 617
def aks:Obj:=tN 1014 agm
def am2:Obj:=cU "_law_gcd" 1011 356 2 3 619 1018
def ajV:Obj:=fV "_law_gcd" 83 mY 624
def anW:Obj:=tN 1024 Uq
def alF:Obj:=cU "_law_ratio" 1021 361 2 3 626 1027
def akn:Obj:=fV "_law_ratio" 84 mY 631
def amk:Obj:=cV "_law_names" 1030 364 2 3 633 1033
def akA:Obj:=fV "_law_names" 85 mY 636
def an2:Obj:=cV "_law_door" 1036 373 2 3 638 1039
def al3:Obj:=fV "_law_door" 86 mY 641
def als:Obj:=cV "_law_doors" 1042 390 4 3 643 1045
def amG:Obj:=fV "_law_doors" 87 mY 646
def akv:Obj:=cV "_law_built" 1048 400 3 3 648 1051
def anr:Obj:=fV "_law_built" 88 mY 651
def anK:Obj:=cV "_law_hall" 1054 410 3 3 653 1057
def alE:Obj:=fV "_law_hall" 89 mY 656
def akP:Obj:=cU "_law_size" 1060 417 1 3 658 1065
def ajE:Obj:=fV "_law_size" 90 mY 663
def ajr:Obj:=cV "_law_ways" 1068 424 1 3 665 1071
def anF:Obj:=fV "_law_ways" 91 mY 668
def ajP:Obj:=cV "_law_goals" 1074 430 2 3 670 1077
def amK:Obj:=fV "_law_goals" 92 mY 673
def anc:Obj:=cU "_law_whole" 1080 435 1 3 675 1084
def alZ:Obj:=fV "_law_whole" 93 mY 680
def ajq:Obj:=cU "_law_is_fraction" 1087 437 1 3 682 1091
def ald:Obj:=fV "_law_is_fraction" 94 mY 687
def ajY:Obj:=cV "_law_fractions" 1094 443 2 3 689 1097
def ajX:Obj:=fV "_law_fractions" 95 mY 692
def amT:Obj:=cV "_law_all_ways" 1100 447 1 3 694 1103
def ajS:Obj:=fV "_law_all_ways" 96 mY 697
def amB:Obj:=tN 1109 acO
def ajy:Obj:=cU "_law_mean" 1106 449 2 3 699 1116
def ajn:Obj:=fV "_law_mean" 97 mY 704
def ajm:Obj:=tN 1122 Ye
def akK:Obj:=cU "_law_taken" 1119 457 2 3 706 1126
def alL:Obj:=fV "_law_taken" 98 mY 711
def anl:Obj:=cV "_law_near" 1129 465 2 3 713 1132
def amo:Obj:=fV "_law_near" 99 mY 716
def anA:Obj:=tN 1138 Oh
def anp:Obj:=cU "_law_chances" 1135 472 4 3 718 1146
def ano:Obj:=fV "_law_chances" 100 mY 723
def alk:Obj:=tN 1152 Vg
def aki:Obj:=cU "_law_chosen" 1149 486 2 3 725 1157
def ak7:Obj:=fV "_law_chosen" 101 mY 730
def alc:Obj:=tN 1163 NP
def ajT:Obj:=cU "_law_refused" 1160 495 3 3 732 1168
def anw:Obj:=fV "_law_refused" 102 mY 737
def akF:Obj:=tN 1174 Ti
def ak2:Obj:=cU "_law_spoilt" 1171 505 3 3 739 1180
def akf:Obj:=fV "_law_spoilt" 103 mY 744
def anO:Obj:=cU "_law_odd" 1183 517 2 3 746 1188
def ajD:Obj:=fV "_law_odd" 104 mY 751
def tr1(P:Params):BT:=nd (boot_o_0 P) (nd (boot_o_1 P) (nd (ao0 P) (nd (boot_o_7 P) (nd tE (nd q31 (nd fE (nd ajL (n1 (tN 506 Oi) aly) (n1 akJ fE)) (nd tE (n1 (fU "only_answer" 47) tE) (n1 tE (fU "_law_mean" 97)))) (nd q95 (nd fE (n1 fE (fU "offers_of" 78)) (n1 (wF 414 411 "chancehall.doors" 687) fE)) (nd fE (n1 ajz (tN 994 VR)) (n1 anu tE)))) (nd (wT 31) (nd (q79 P) (nd amh (n1 (fU "clear_column" 38) (tN 886 u5)) (n1 tE (fU "_law_hall" 89))) (nd (tN 443 uw) (n1 fE alp) (n1 (wT 439) fE))) (nd (tN 318 dX) (nd tE (n1 tE fE) (n1 fE ajq)) (nd anj (n1 fE (fU "_law_gcd" 83)) (n1 akH anO))))) (nd wA (nd fE (nd (wT 31) (nd akT (n1 tE fE) (n1 ale amG)) (nd fE (n1 amf (fT "check_room" "Hall.check_room" (gK 79 4))) (n1 (fT "__init__" "Sure.__init__" (gK 70 0)) akK))) (nd wA (nd (tN 393 cW) (n1 ali (wC "Hall" 917 313 549 920)) (n1 tE (fU "_law_whole" 93))) (nd (fU "take_step" 32) (n1 al8 tE) (n1 (wC "Toss" 826 275 485 829) (fU "_law_spoilt" 103))))) (nd (q55 P) (nd (⟨.none,none,.fields ⟨i3 17 4 95 <|[]⟩,⟨[]⟩⟩) (nd tE (n1 tE tE) (n1 akx akP)) (nd (cV "lowest" 452 88 2 3 212 455) (n1 ajt (alj P)) (n1 fE alk))) (nd (wS 118) (nd (fU "under" 21) (n1 fE (tN 943 ["self"])) (n1 ajs fE)) (nd fE (n1 (fU "is_word" 62) alF) (lf (apC P))))))) (nd o11 (nd (fU "_wall" 0) (nd (wT 31) (nd (q67 P) (nd tE (n1 anQ anL) (n1 (tN 700 ["room"]) tE)) (nd (fU "total" 24) (n1 fE tE) (n1 tE fE))) (nd q99 (nd (cU "minus" 382 58 2 3 158 387) (n1 tE wA) (n1 tE tE)) (nd tE (n1 alv aln) (n1 wA tE)))) (nd fE (nd (wT 31) (nd tE (n1 fE alr) (n1 alC fE)) (nd alU (n1 tE (fT "offers" "Hall.offers" (gK 79 6))) (n1 (⟨.none,none,.fields ⟨i3 271 4 475 <|[]⟩,⟨[]⟩⟩) anp))) (nd ajU (nd tE (n1 (fU "answer_of" 45) (cO "size" "Hall.size" 933 321 1 3 558 937)) (n1 ank (fU "_law_fractions" 95))) (nd (fU "fractions_of" 34) (n1 amb fE) (lf (wS 498)))))) (nd (wC "HallError" 198 5 25 201) (nd (q43 P) (nd fE (nd (tN 359 Rk) (n1 tE alN) (n1 tE akv)) (nd (cU "fits" 432 76 2 3 198 437) (n1 (fU "meets" 50) fE) (n1 (ajv P) (fU "_law_near" 99)))) (nd (wC "NoPlan" 305 20 105 308) (nd alJ (n1 tE (fT "__init__" "Hall.__init__" (gK 79 0))) (n1 (fT "ways" "Door.ways" (gK 69 1)) fE)) (nd fE (n1 (fU "plan_chances" 58) tE) (n1 alO fE)))) (nd (wT 31) (nd fE (nd (fU "plus" 17) (n1 (fU "width_of" 41) tE) (n1 (aoT P) (fU "_law_ways" 91))) (nd (fU "row_times" 30) (n1 alR (wS 600)) (n1 aj7 ak7))) (nd (tN 333 ["thing"]) (nd fE (n1 tE akO) (n1 (wB 439) tE)) (nd alA (n1 fE (fU "_law_names" 85)) (lf (wF 506 503 "chancehall.doors" 687)))))))) (nd (boot_o_5 P) (nd (boot_o_9 P) (nd (tN 190 ["k"]) (nd (wS 31) (nd (wF 64 61 "chancehall.errors" 194) (nd fE (n1 (fU "go_on" 36) tE) (n1 tE an2)) (nd (tN 425 Ru) (n1 anV (cO "place" "Hall.place" 947 327 2 3 572 952)) (n1 (wC "Sure" 772 263 447 775) ajn))) (nd (tN 298 ["room"]) (nd tE (n1 aku am3) (n1 fE ajP)) (nd (cV "row_plus" 464 95 3 3 222 467) (n1 (fU "left_rows" 55) (fU "_law_cell" 81)) (n1 (wB 479) ajT)))) (nd (q49 P) (nd (wS 80) (nd fE (n1 akk (fU "numbers_of" 76)) (n1 (fU "check_pairs" 67) alE)) (nd (fU "check_plan" 27) (n1 (cV "by_some" 620 187 2 3 334 623) tE) (n1 (apa P) tE))) (nd (fT "__init__" "NoPlan.__init__" (gK 8 0)) (nd (cU "over" 398 62 2 3 172 403) (n1 anS tE) (n1 tE tE)) (nd tE (n1 tE ajV) (lf (amX P)))))) (nd tE (nd (wF 40 37 "chancehall.errors" 194) (nd (q73 P) (nd tE (n1 am9 tE) (n1 fE fE)) (nd tE (n1 tE alP) (n1 amw tE))) (nd tE (nd (fU "times" 19) (n1 fE tE) (n1 (tN 747 ["self"]) alZ)) (nd ajJ (n1 tE anM) (n1 tE akf)))) (nd (wS 56) (nd (wF 88 85 "chancehall.errors" 194) (nd (tN 377 cW) (n1 (tN 547 ["rows"]) ajB) (n1 tE tE)) (nd tE (n1 fE ajA) (n1 tE (fU "_law_chosen" 101)))) (nd tE (nd aji (n1 amm (fT "names" "Hall.names" (gK 79 2))) (n1 (wG 765 439) amT)) (nd tE (n1 aj8 tE) (lf (⟨.none,none,.fields ⟨i3 283 4 511 <|[]⟩,⟨[]⟩⟩))))))) (nd o13 (nd q21 (nd (q37 P) (nd (wS 68) (nd (cU "divisor" 337 28 2 3 128 345) (n1 fE (wB 515)) (n1 (fU "check_room_name" 65) (fU "_law_doors" 87))) (nd ajh (n1 tE (tN 958 dX)) (n1 (tN 785 vZ) tE))) (nd (wB 99) (nd tE (n1 (fU "begins_of" 43) tE) (n1 anC (tN 1083 Dl))) (nd (tN 473 yM) (n1 fE fE) (n1 tE akF)))) (nd (wF 52 49 "chancehall.errors" 194) (nd (q85 P) (nd (cU "is_ratio" 365 48 1 3 144 371) (n1 (cV "reduced" 536 134 2 3 274 539) fE) (n1 fE tE)) (nd fE (n1 (fU "steps_to" 52) am5) (n1 (wF 468 465 "chancehall.doors" 687) tE))) (nd (ang P) (nd (tN 409 cW) (n1 amP tE) (n1 (tN 759 ["leads","name","pay"]) ajX)) (nd ajg (n1 tE tE) (lf (wT 479)))))) (nd tE (nd (wS 44) (nd (wF 76 73 "chancehall.errors" 194) (nd (fU "ratio" 15) (n1 ak0 tE) (n1 ajN tE)) (nd tE (n1 anY tE) (n1 (wS 460) amo))) (nd tE (nd fE (n1 (cU "odd_row" 563 159 3 3 296 570) am6) (n1 alV tE)) (nd tE (n1 ajG aks) (n1 (fT "__init__" "Toss.__init__" (gK 72 0)) tE)))) (nd (q61 P) (nd tE (nd akC (n1 alq amn) (n1 (⟨.none,none,.fields ⟨i3 252 4 421 <|i3 258 4 428 <|i3 261 4 435 <|[]⟩,⟨[]⟩⟩) anF)) (nd ajl (n1 tE tE) (n1 (tN 819 ["leads"]) fE))) (nd (fU "is_whole" 10) (nd (cV "level" 416 67 1 3 186 419) (n1 ak4 fE) (n1 wA amB)) (nd tE (n1 tE akA) (lf fE)))))))) (nd (boot_o_2 P) (nd (boot_o_4 P) (nd (boot_o_8 P) (nd fE (nd (wG 209 31) (nd (wC "NoChance" 248 11 62 251) (nd tE (n1 tE alG) (n1 amQ (fU "_law_door" 86))) (nd fE (n1 alg (fT "place" "Hall.place" (gK 79 3))) (n1 (⟨.none,none,.fields ⟨i3 265 4 456 <|[]⟩,⟨[]⟩⟩) ajy))) (nd q96 (nd (tN 385 cW) (n1 (fU "with_rights" 42) anm) (n1 tE (fU "_law_goals" 92))) (nd (fU "row_plus" 31) (n1 tE tE) (n1 (wS 479) (fU "_law_refused" 102))))) (nd wA (nd q80 (nd tE (n1 akI tE) (n1 fE anK)) (nd tE (n1 (fU "by_some" 51) amW) (n1 wA anA))) (nd tE (nd (fU "over" 20) (n1 fE (tN 936 ["self"])) (n1 (tN 754 dX) ald)) (nd ajH (n1 (tN 670 uX) am2) (n1 tE ajD))))) (nd (q24 P) (nd (wC "NoNumber" 216 7 38 219) (nd wA (nd akY (n1 (fU "begin_row" 37) (tN 879 ["share"])) (n1 tE tE)) (nd (tN 435 Xe) (n1 anU akV) (n1 alX alL))) (nd (aph P) (nd tE (n1 tE (wF 551 548 "chancehall.halls" 874)) (n1 fE anc)) (nd am7 (n1 akd (fU "_law_stream" 82)) (n1 (wF 487 484 "chancehall.doors" 687) ak2)))) (nd q56 (nd (wC "NoRoom" 280 15 86 283) (nd fE (n1 fE (fU "numbered_ways" 77)) (n1 ajo ajE)) (nd ajp (n1 tE akD) (n1 (tN 812 um) tE))) (nd (wB 118) (nd (cU "under" 406 64 2 3 179 411) (n1 (fU "single_rows" 46) tE) (n1 akU (fU "_law_all_ways" 96))) (nd amC (n1 (cV "is_word" 681 223 1 3 373 684) akn) (lf tE)))))) (nd (⟨.none,none,.fields ⟨i3 1 0 20 <|i3 5 0 27 <|i3 7 0 40 <|i3 9 0 52 <|i3 11 0 64 <|i3 13 0 76 <|i3 15 0 88 <|i3 20 0 107 <|i3 26 0 126 <|i3 28 0 133 <|i3 39 0 142 <|i3 48 0 149 <|i3 56 0 156 <|i3 58 0 163 <|i3 60 0 170 <|i3 62 0 177 <|i3 64 0 184 <|i3 67 0 189 <|i3 72 0 196 <|i3 76 0 203 <|i3 80 0 210 <|i3 88 0 215 <|i3 93 0 220 <|i3 95 0 225 <|i3 102 0 232 <|i3 111 0 239 <|i3 113 0 244 <|i3 115 0 251 <|i3 120 0 258 <|i3 123 0 265 <|i3 129 0 272 <|i3 134 0 277 <|i3 146 0 284 <|i3 150 0 289 <|i3 152 0 294 <|i3 159 0 301 <|i3 164 0 308 <|i3 169 0 313 <|i3 171 0 320 <|i3 179 0 327 <|i3 185 0 332 <|i3 187 0 337 <|i3 189 0 342 <|i3 200 0 347 <|i3 202 0 354 <|i3 210 0 359 <|i3 214 0 364 <|i3 217 0 371 <|i3 223 0 376 <|i3 228 0 383 <|i3 233 0 390 <|i3 236 0 397 <|i3 239 0 402 <|i3 245 0 407 <|i3 250 0 414 <|i3 263 0 449 <|i3 269 0 468 <|i3 275 0 487 <|i3 281 0 506 <|i3 286 0 523 <|i3 289 0 530 <|i3 297 0 537 <|i3 304 0 544 <|i3 313 0 551 <|i3 343 0 610 <|i3 345 0 617 <|i3 356 0 624 <|i3 361 0 631 <|i3 364 0 636 <|i3 373 0 641 <|i3 390 0 646 <|i3 400 0 651 <|i3 410 0 656 <|i3 417 0 663 <|i3 424 0 668 <|i3 430 0 673 <|i3 435 0 680 <|i3 437 0 687 <|i3 443 0 692 <|i3 447 0 697 <|i3 449 0 704 <|i3 457 0 711 <|i3 465 0 716 <|i3 472 0 723 <|i3 486 0 730 <|i3 495 0 737 <|i3 505 0 744 <|i3 517 0 751 <|[]⟩,⟨[]⟩⟩) (nd (cU "_wall" 187 1 1 3 15 191) (nd wA (nd q68 (nd (fU "divisor" 11) (n1 tE (wS 515)) (n1 tE fE)) (nd (cU "total" 422 72 1 3 191 427) (n1 (tN 607 uY) fE) (n1 fE ajm))) (nd (wS 99) (nd anG (n1 fE (ape P)) (n1 (fT "__init__" "Door.__init__" (gK 69 0)) fE)) (nd fE (n1 tE tE) (n1 (an9 P) fE)))) (nd (wC "NoName" 232 9 50 235) (nd wA (nd (fU "is_ratio" 16) (n1 (fU "reduced" 39) tE) (n1 tE (tN 1063 Xp))) (nd tE (n1 fE alm) (n1 (wC "Mixed" 799 269 466 802) ano))) (nd (tN 323 ["room"]) (nd fE (n1 ajR ami) (n1 amc ajY)) (nd akh (n1 akW anW) (lf (wB 498)))))) (nd (wF 27 24 "chancehall.errors" 194) (nd q44 (nd (wC "NoShare" 264 13 74 267) (nd tE (n1 fE alQ) (n1 (fU "check_chance" 66) anr)) (nd amY (n1 (cV "meets" 614 185 2 3 329 617) (tN 966 vW)) (n1 aj0 anl))) (nd (wF 107 104 "chancehall.errors" 194) (nd tE (n1 (fU "odd_row" 44) amS) (n1 (cO "ways" "Door.ways" 744 258 1 3 423 748) (tN 1090 Dl))) (nd (tN 482 wg) (n1 anJ fE) (n1 tE (tN 1186 gC))))) (nd wA (nd (tN 293 dX) (nd (cU "plus" 374 56 2 3 151 379) (n1 aml fE) (n1 tE ajr)) (nd amN (n1 al5 (wB 600)) (n1 akp tE))) (nd tE (nd (fU "level" 23) (n1 fE tE) (n1 (wT 439) fE)) (nd akj (n1 (tN 692 uH) amk) (lf tE))))))) (nd (boot_o_6 P) (nd (boot_o_10 P) (nd tE (nd (wB 31) (nd tE (nd ak5 (n1 (cU "go_on" 503 120 3 3 253 509) (aj2 P)) (n1 fE al3)) (nd tE (n1 tE anZ) (n1 (wF 449 446 "chancehall.doors" 687) tE))) (nd (q98 P) (nd (fU "minus" 18) (n1 akL tE) (n1 (tN 738 wN) amK)) (nd alD (n1 aj5 ama) (n1 (wT 479) anw)))) (nd tE (nd (wB 80) (nd (tN 368 Bc) (n1 tE amR) (n1 ajk tE)) (nd amt (n1 amH fE) (n1 tE (fU "_law_chances" 100)))) (nd anD (nd aj6 (n1 tE (fT "size" "Hall.size" (gK 79 1))) (n1 (fT "chance_to" "Door.chance_to" (gK 69 2)) fE)) (nd fE (n1 (fU "chances_of" 59) tE) (lf anN))))) (nd fE (nd tE (nd tE (nd fE (n1 ajK (fU "check_share" 75)) (n1 (tN 707 ["chance"]) (fU "_law_built" 88))) (nd (fU "fits" 26) (n1 fE tE) (n1 (tN 792 ["leads"]) fE))) (nd (⟨.none,none,.fields ⟨i3 22 4 114 <|[]⟩,⟨[]⟩⟩) (nd (cU "times" 390 60 2 3 165 395) (n1 (tN 566 Fj) fE) (n1 tE tE)) (nd tE (n1 fE alT) (n1 fE tE)))) (nd (wB 56) (nd tE (nd tE (n1 tE amr) (n1 wA fE)) (nd fE (n1 (fU "chosen_doors" 54) (wG 984 600)) (n1 (fT "__init__" "Mixed.__init__" (gK 71 0)) aki))) (nd fE (nd tE (n1 amg (cO "names" "Hall.names" 940 324 1 3 565 944)) (n1 (wS 439) ajS)) (nd (fU "first_from" 35) (n1 tE fE) (lf (wC "Even" 854 281 504 857))))))) (nd o14 (nd q22 (nd tE (nd (wB 68) (nd al7 (n1 akz tE) (n1 al2 als)) (nd tE (n1 (fU "goal_marks" 49) tE) (n1 tE (fU "_law_taken" 98)))) (nd (wT 31) (nd fE (n1 akR (⟨.none,none,.fields ⟨i3 315 4 556 <|i3 321 4 563 <|i3 324 4 570 <|i3 327 4 577 <|i3 332 4 584 <|i3 336 4 591 <|i3 339 4 596 <|[]⟩,⟨[]⟩⟩)) (n1 ame tE)) (nd tE (n1 (fU "on_the_way" 57) aj3) (n1 (⟨.none,none,.fields ⟨i3 277 4 494 <|[]⟩,⟨[]⟩⟩) tE)))) (nd tE (nd tE (nd akE (n1 aju alH) (n1 (fU "joined_ways" 68) (fU "_law_size" 90))) (nd (fU "lowest" 29) (n1 amJ (tN 978 ["numbers","offered","share"])) (n1 tE fE))) (nd alY (nd tE (n1 tE fE) (n1 (ajO P) tE)) (nd tE (n1 fE (fU "_law_ratio" 84)) (lf wA))))) (nd (q30 P) (nd (wB 44) (nd tE (nd (cU "ratio" 356 39 2 3 137 362) (n1 tE fE) (n1 amx fE)) (nd fE (n1 tE (fT "door_at" "Hall.door_at" (gK 79 5))) (n1 (wB 460) tE))) (nd fE (nd (tN 401 cW) (n1 amL tE) (n1 tE (fU "_law_is_fraction" 94))) (nd (fU "number_at" 33) (n1 tE tE) (n1 alo (fU "_law_odd" 104))))) (nd tE (nd (fT "__init__" "NoRoom.__init__" (gK 7 0)) (nd tE (n1 tE tE) (n1 (wC "Door" 725 250 412 728) tE)) (nd tE (n1 fE fE) (n1 (aj4 P) alc))) (nd (cU "is_whole" 330 26 1 3 121 334) (nd al6 (n1 tE (tN 950 Cy)) (n1 (an7 P) tE)) (nd fE (n1 (fU "check_head" 64) tE) (lf (fT "__init__" "Even.__init__" (gK 73 0))))))))))
def S1(w:World)(os:OsState):SharedT:=⟨tr1 w.params,753,{},⟨[]⟩,{},1191,os⟩
def e1:Pos:=⟨517,0,518,141⟩
def KH:Params->Frag:=λP=>((nat_lit 2,boot_o_2 P)::(nat_lit 3,zM P [("_law_goals_first",1205,759),("law",1211,764)] 102)::(nat_lit 15,tE)::(nat_lit 17,tN 190 ["k"])::(nat_lit 18,tE)::(nat_lit 20,cU "_wall" 187 1 1 3 15 191)::(nat_lit 21,q21)::(nat_lit 22,q22)::(nat_lit 29,tE)::(nat_lit 30,q30 P)::(nat_lit 31,q31)::(nat_lit 32,(wG 209 31))::(nat_lit 35,(wT 31))::(nat_lit 42,tE)::(nat_lit 43,q43 P)::(nat_lit 44,q44)::(nat_lit 47,(wT 31))::(nat_lit 54,tE)::(nat_lit 55,q55 P)::(nat_lit 56,q56)::(nat_lit 59,(wT 31))::(nat_lit 66,tE)::(nat_lit 67,q67 P)::(nat_lit 68,q68)::(nat_lit 71,(wT 31))::(nat_lit 78,tE)::(nat_lit 79,q79 P)::(nat_lit 80,q80)::(nat_lit 83,(wT 31))::(nat_lit 90,tE)::(nat_lit 92,tN 293 dX)::(nat_lit 93,tE)::(nat_lit 95,q95)::(nat_lit 96,q96)::(nat_lit 97,tN 298 ["room"])::(nat_lit 98,q98 P)::(nat_lit 99,q99)::(nat_lit 102,(wT 31))::(nat_lit 109,tE)::(nat_lit 111,tN 318 dX)::(nat_lit 112,tE)::(nat_lit 114,anD)::(nat_lit 115,ajU)::(nat_lit 116,tN 323 ["room"])::(nat_lit 117,ang P)::(nat_lit 118,alY)::(nat_lit 121,tE)::(nat_lit 123,tN 333 ["thing"])::(nat_lit 124,tE)::(nat_lit 126,cU "is_whole" 330 26 1 3 121 334)::(nat_lit 127,ajL)::(nat_lit 128,tE)::(nat_lit 130,ak5)::(nat_lit 131,tE)::(nat_lit 133,cU "divisor" 337 28 2 3 128 345)::(nat_lit 134,al7)::(nat_lit 135,akT)::(nat_lit 136,akY)::(nat_lit 137,tE)::(nat_lit 139,tN 359 Rk)::(nat_lit 140,tE)::(nat_lit 142,cU "ratio" 356 39 2 3 137 362)::(nat_lit 143,amh)::(nat_lit 144,tE)::(nat_lit 146,tN 368 Bc)::(nat_lit 147,tE)::(nat_lit 149,cU "is_ratio" 365 48 1 3 144 371)::(nat_lit 150,akE)::(nat_lit 151,tE)::(nat_lit 153,tN 377 cW)::(nat_lit 154,tE)::(nat_lit 156,cU "plus" 374 56 2 3 151 379)::(nat_lit 157,akC)::(nat_lit 158,tE)::(nat_lit 160,tN 385 cW)::(nat_lit 161,tE)::(nat_lit 163,cU "minus" 382 58 2 3 158 387)::(nat_lit 164,anG)::(nat_lit 165,tE)::(nat_lit 167,tN 393 cW)::(nat_lit 168,tE)::(nat_lit 170,cU "times" 390 60 2 3 165 395)::(nat_lit 171,alJ)::(nat_lit 172,tE)::(nat_lit 174,tN 401 cW)::(nat_lit 175,tE)::(nat_lit 177,cU "over" 398 62 2 3 172 403)::(nat_lit 178,aj6)::(nat_lit 179,tE)::(nat_lit 181,tN 409 cW)::(nat_lit 182,tE)::(nat_lit 184,cU "under" 406 64 2 3 179 411)::(nat_lit 185,aji)::(nat_lit 186,tE)::(nat_lit 189,cV "level" 416 67 1 3 186 419)::(nat_lit 190,al6)::(nat_lit 191,tE)::(nat_lit 193,tN 425 Ru)::(nat_lit 194,tE)::(nat_lit 196,cU "total" 422 72 1 3 191 427)::(nat_lit 197,ajh)::(nat_lit 198,tE)::(nat_lit 200,tN 435 Xe)::(nat_lit 201,tE)::(nat_lit 203,cU "fits" 432 76 2 3 198 437)::(nat_lit 204,amY)::(nat_lit 205,tE)::(nat_lit 207,tN 443 uw)::(nat_lit 208,tE)::(nat_lit 210,amt)::(nat_lit 211,alU)::(nat_lit 212,tE)::(nat_lit 215,cV "lowest" 452 88 2 3 212 455)::(nat_lit 216,ajp)::(nat_lit 217,tE)::(nat_lit 220,amN)::(nat_lit 221,ajl)::(nat_lit 222,tE)::(nat_lit 225,cV "row_plus" 464 95 3 3 222 467)::(nat_lit 226,alD)::(nat_lit 227,tE)::(nat_lit 229,tN 473 yM)::(nat_lit 230,tE)::(nat_lit 232,am7)::(nat_lit 233,ajJ)::(nat_lit 234,tE)::(nat_lit 236,tN 482 wg)::(nat_lit 237,tE)::(nat_lit 239,anj)::(nat_lit 240,ajH)::(nat_lit 241,tE)::(nat_lit 244,akh)::(nat_lit 245,ajg)::(nat_lit 246,tE)::(nat_lit 248,amC)::(nat_lit 249,tE)::(nat_lit 251,alA)::(nat_lit 252,akj)::(nat_lit 253,tE)::(nat_lit 255,tN 506 Oi)::(nat_lit 256,tE)::(nat_lit 258,cU "go_on" 503 120 3 3 253 509)::(nat_lit 259,anQ)::(nat_lit 260,tE)::(nat_lit 262,akz)::(nat_lit 263,tE)::(nat_lit 265,am9)::(nat_lit 266,ajK)::(nat_lit 267,tE)::(nat_lit 269,ak0)::(nat_lit 270,tE)::(nat_lit 272,akI)::(nat_lit 273,akk)::(nat_lit 274,tE)::(nat_lit 277,cV "reduced" 536 134 2 3 274 539)::(nat_lit 278,aju)::(nat_lit 279,tE)::(nat_lit 281,tN 547 ["rows"])::(nat_lit 282,tE)::(nat_lit 284,aml)::(nat_lit 285,alq)::(nat_lit 286,tE)::(nat_lit 289,aku)::(nat_lit 290,akL)::(nat_lit 291,tE)::(nat_lit 294,akR)::(nat_lit 295,ali)::(nat_lit 296,tE)::(nat_lit 298,tN 566 Fj)::(nat_lit 299,tE)::(nat_lit 301,cU "odd_row" 563 159 3 3 296 570)::(nat_lit 302,amL)::(nat_lit 303,tE)::(nat_lit 305,anS)::(nat_lit 306,tE)::(nat_lit 308,ajR)::(nat_lit 309,amP)::(nat_lit 310,tE)::(nat_lit 313,amm)::(nat_lit 314,amg)::(nat_lit 315,tE)::(nat_lit 317,ak4)::(nat_lit 318,tE)::(nat_lit 320,alg)::(nat_lit 321,anV)::(nat_lit 322,tE)::(nat_lit 324,tN 607 uY)::(nat_lit 325,tE)::(nat_lit 327,amf)::(nat_lit 328,anU)::(nat_lit 329,tE)::(nat_lit 332,cV "meets" 614 185 2 3 329 617)::(nat_lit 333,anY)::(nat_lit 334,tE)::(nat_lit 337,cV "by_some" 620 187 2 3 334 623)::(nat_lit 338,amH)::(nat_lit 339,tE)::(nat_lit 342,amJ)::(nat_lit 343,ajt)::(nat_lit 344,tE)::(nat_lit 347,alR)::(nat_lit 348,al5)::(nat_lit 349,tE)::(nat_lit 351,ajz)::(nat_lit 352,tE)::(nat_lit 354,aj5)::(nat_lit 355,alv)::(nat_lit 356,tE)::(nat_lit 359,al8)::(nat_lit 360,akd)::(nat_lit 361,tE)::(nat_lit 364,anJ)::(nat_lit 365,ajG)::(nat_lit 366,tE)::(nat_lit 368,tN 670 uX)::(nat_lit 369,tE)::(nat_lit 371,amb)::(nat_lit 372,akW)::(nat_lit 373,tE)::(nat_lit 376,cV "is_word" 681 223 1 3 373 684)::(nat_lit 377,aj8)::(nat_lit 378,tE)::(nat_lit 380,tN 692 uH)::(nat_lit 381,tE)::(nat_lit 383,akJ)::(nat_lit 384,amQ)::(nat_lit 385,tE)::(nat_lit 387,tN 700 ["room"])::(nat_lit 388,tE)::(nat_lit 390,al2)::(nat_lit 391,ale)::(nat_lit 392,tE)::(nat_lit 394,tN 707 ["chance"])::(nat_lit 395,tE)::(nat_lit 397,ajN)::(nat_lit 398,amx)::(nat_lit 399,tE)::(nat_lit 402,ajk)::(nat_lit 403,alC)::(nat_lit 404,tE)::(nat_lit 407,akx)::(nat_lit 408,ajo)::(nat_lit 416,tE)::(nat_lit 418,tN 738 wN)::(nat_lit 419,tE)::(nat_lit 421,anC)::(nat_lit 422,ame)::(nat_lit 423,tE)::(nat_lit 425,tN 747 ["self"])::(nat_lit 426,tE)::(nat_lit 428,cO "ways" "Door.ways" 744 258 1 3 423 748)::(nat_lit 429,alV)::(nat_lit 430,tE)::(nat_lit 432,tN 754 dX)::(nat_lit 433,tE)::(nat_lit 435,ank)::(nat_lit 436,amc)::(nat_lit 437,tN 759 ["leads","name","pay"])::(nat_lit 438,ajO P)::(nat_lit 439,ajs)::(nat_lit 440,akU)::(nat_lit 441,(wG 765 439))::(nat_lit 444,(wT 439))::(nat_lit 451,tE)::(nat_lit 453,tN 785 vZ)::(nat_lit 454,tE)::(nat_lit 456,alX)::(nat_lit 457,amw)::(nat_lit 458,tN 792 ["leads"])::(nat_lit 459,ajv P)::(nat_lit 460,aj0)::(nat_lit 463,(wT 439))::(nat_lit 470,tE)::(nat_lit 472,tN 812 um)::(nat_lit 473,tE)::(nat_lit 475,aj7)::(nat_lit 476,akp)::(nat_lit 477,tN 819 ["leads"])::(nat_lit 478,aj4 P)::(nat_lit 479,anu)::(nat_lit 482,(wT 479))::(nat_lit 489,tE)::(nat_lit 491,alO)::(nat_lit 492,tE)::(nat_lit 494,alo)::(nat_lit 495,akH)::(nat_lit 496,tE)::(nat_lit 497,amX P)::(nat_lit 498,anN)::(nat_lit 501,(wT 479))::(nat_lit 508,tE)::(nat_lit 511,aly)::(nat_lit 512,alG)::(nat_lit 513,tE)::(nat_lit 514,aj2 P)::(nat_lit 515,anL)::(nat_lit 518,tE)::(nat_lit 520,tN 879 ["share"])::(nat_lit 521,tE)::(nat_lit 523,alN)::(nat_lit 524,alQ)::(nat_lit 525,tE)::(nat_lit 527,tN 886 u5)::(nat_lit 528,tE)::(nat_lit 530,amR)::(nat_lit 531,alr)::(nat_lit 532,tE)::(nat_lit 534,alH)::(nat_lit 535,tE)::(nat_lit 537,ajB)::(nat_lit 538,amr)::(nat_lit 539,tE)::(nat_lit 541,amn)::(nat_lit 542,tE)::(nat_lit 544,anm)::(nat_lit 545,am3)::(nat_lit 553,tE)::(nat_lit 556,amS)::(nat_lit 557,am6)::(nat_lit 558,tE)::(nat_lit 560,tN 936 ["self"])::(nat_lit 561,tE)::(nat_lit 563,cO "size" "Hall.size" 933 321 1 3 558 937)::(nat_lit 564,ami)::(nat_lit 565,tE)::(nat_lit 567,tN 943 ["self"])::(nat_lit 568,tE)::(nat_lit 570,cO "names" "Hall.names" 940 324 1 3 565 944)::(nat_lit 571,akO)::(nat_lit 572,tE)::(nat_lit 574,tN 950 Cy)::(nat_lit 575,tE)::(nat_lit 577,cO "place" "Hall.place" 947 327 2 3 572 952)::(nat_lit 578,anZ)::(nat_lit 579,tE)::(nat_lit 581,tN 958 dX)::(nat_lit 582,tE)::(nat_lit 584,akV)::(nat_lit 585,alP)::(nat_lit 586,tE)::(nat_lit 588,tN 966 vW)::(nat_lit 589,tE)::(nat_lit 591,alp)::(nat_lit 592,amW)::(nat_lit 593,tE)::(nat_lit 596,alm)::(nat_lit 597,am5)::(nat_lit 598,tN 978 ["numbers","offered","share"])::(nat_lit 599,alj P)::(nat_lit 600,akD)::(nat_lit 601,ajA)::(nat_lit 602,(wG 984 600))::(nat_lit 605,tE)::(nat_lit 607,tN 994 VR)::(nat_lit 608,tE)::(nat_lit 610,ama)::(nat_lit 611,aln)::(nat_lit 612,tE)::(nat_lit 614,aj3)::(nat_lit 615,tE)::(nat_lit 617,anM)::(nat_lit 618,alT)::(nat_lit 619,tE)::(nat_lit 621,aks)::(nat_lit 622,tE)::(nat_lit 624,am2)::(nat_lit 625,ajV)::(nat_lit 626,tE)::(nat_lit 628,anW)::(nat_lit 629,tE)::(nat_lit 631,alF)::(nat_lit 632,akn)::(nat_lit 633,tE)::(nat_lit 636,amk)::(nat_lit 637,akA)::(nat_lit 638,tE)::(nat_lit 641,an2)::(nat_lit 642,al3)::(nat_lit 643,tE)::(nat_lit 646,als)::(nat_lit 647,amG)::(nat_lit 648,tE)::(nat_lit 651,akv)::(nat_lit 652,anr)::(nat_lit 653,tE)::(nat_lit 656,anK)::(nat_lit 657,alE)::(nat_lit 658,tE)::(nat_lit 660,tN 1063 Xp)::(nat_lit 661,tE)::(nat_lit 663,akP)::(nat_lit 664,ajE)::(nat_lit 665,tE)::(nat_lit 668,ajr)::(nat_lit 669,anF)::(nat_lit 670,tE)::(nat_lit 673,ajP)::(nat_lit 674,amK)::(nat_lit 675,tE)::(nat_lit 677,tN 1083 Dl)::(nat_lit 678,tE)::(nat_lit 680,anc)::(nat_lit 681,alZ)::(nat_lit 682,tE)::(nat_lit 684,tN 1090 Dl)::(nat_lit 685,tE)::(nat_lit 687,ajq)::(nat_lit 688,ald)::(nat_lit 689,tE)::(nat_lit 692,ajY)::(nat_lit 693,ajX)::(nat_lit 694,tE)::(nat_lit 697,amT)::(nat_lit 698,ajS)::(nat_lit 699,tE)::(nat_lit 701,amB)::(nat_lit 702,tE)::(nat_lit 704,ajy)::(nat_lit 705,ajn)::(nat_lit 706,tE)::(nat_lit 708,ajm)::(nat_lit 709,tE)::(nat_lit 711,akK)::(nat_lit 712,alL)::(nat_lit 713,tE)::(nat_lit 716,anl)::(nat_lit 717,amo)::(nat_lit 718,tE)::(nat_lit 720,anA)::(nat_lit 721,tE)::(nat_lit 723,anp)::(nat_lit 724,ano)::(nat_lit 725,tE)::(nat_lit 727,alk)::(nat_lit 728,tE)::(nat_lit 730,aki)::(nat_lit 731,ak7)::(nat_lit 732,tE)::(nat_lit 734,alc)::(nat_lit 735,tE)::(nat_lit 737,ajT)::(nat_lit 738,anw)::(nat_lit 739,tE)::(nat_lit 741,akF)::(nat_lit 742,tE)::(nat_lit 744,ak2)::(nat_lit 745,akf)::(nat_lit 746,tE)::(nat_lit 748,tN 1186 gC)::(nat_lit 749,tE)::(nat_lit 751,anO)::(nat_lit 752,ajD)::(nat_lit 753,tE)::(nat_lit 755,tN 1194 Ae)::(nat_lit 756,tE)::(nat_lit 758,cU "_law_goals_first" 1191 519 5 3 753 1203)::(nat_lit 759,fV "_law_goals_first" 105 mY 758)::(nat_lit 760,tE)::(nat_lit 763,cV "law" 1206 527 1 3 760 1209)::(nat_lit 764,fV "law" 106 mY 763)::([]:List (Nat×Obj)))
abbrev asH:List Nat:=(KH {strHash:=λ_=>0,shareClass:=λ_=>0,mergeTok:=id,idOf:=λ_=>0,idOfShared:=λ_ _=>0,followText:=λ_=>true,idOfImm:=λ_=>0}).map (·.1)
end
noncomputable def qv:Program:=view p [0,2,3,4,5,6,7,8,10,11,13,14,15,16,17,18,19,20,21,23,24,26,27,29,30,31,32,33,34,35,36,37,38,39,41,42,43,44,45,46,47,49,50,51,52,54,55,57,58,59,61,62,64,65,66,67,68,69,70,71,72,73,75,76,77,78,79,81,82,83,84,85,86,87,88,89,90,91,92,93,94,95,96,97,98,99,100,101,102,103,104,105,106]
abbrev R:RowW:=PySem.Challenge.rw_chancehall_k36_chances_of_a_plan.row.toRowW
noncomputable def Xt(s:Shared):Bool:=xlAt qv [] s&&recOk R.records s
def e:Pos:=⟨527,0,551,54⟩
set_option maxHeartbeats 0
def lko:looksOpen PySem.Challenge.rw_chancehall_k36_chances_of_a_plan.row.prog=true:=by kernel_rfl
def wsd:PySem.Challenge.rw_chancehall_k36_chances_of_a_plan.wellSaid=true:=by
 unfold OpenLaw.wellSaid OpenRow.wellSaid OpenRow.partSaid;rw[lko]
 kernel_rfl
def asK:∀P,asH=(KH P).map (·.1):=λ_=>by kernel_rfl
def pre(w:World):(λos=>topGo treeTable p w 11 ann 12 (S0 w os) (topStub p))=λos=>some (Sa w os,⟨denote treeTable (cE p),cE p,z,B⟩):=by
 rw[Fast.te15667345088766844465,Fast.te14364793385576792824,Fast.te11892475500146522536];kernel_rfl
def block(w:World):(λos=>segRun treeTable p w 11 ann 1 1 (Sa w os) (blockOf (behindTheImports p) (env p) (cE p) z B))=λos=>some (.next,(Sb w os).abs,cE p,z):=by
 rw[Fast.te14374325043358763698,Fast.te14364793385576792824];kernel_rfl
def alM(w:World):(λos=>segRunT treeTable p w 11 ann 1 30000 (Sb w os) (piecesOf ((behindTheImports p).take 105) (env p) (cE p) z B))=λos=>some (.next,S1 w os,cE p,e1):=by
 rw[Fast.te10110043849684766642,Fast.te14364793385576792824];kernel_rfl
def comb{R S A B C X Y Z:Type _}{o:Option R}{f:R->A}{g:R->B}{k:R->C}{h:R->Option S}{f1:S->X}{f2:S->Y}{f3:S->Z}{a:A}{b:B}{c:C}{x:X}{y:Y}{z:Z}(h1:(o.map λr=>(f r,g r,k r,(h r).map f1))=some (a,b,c,some x))(h2:(o.map λr=>(f r,g r,k r,(h r).map f2))=some (a,b,c,some y))(h3:(o.map λr=>(f r,g r,k r,(h r).map f3))=some (a,b,c,some z)):(o.map λr=>(f r,g r,k r,(h r).map λs=>(f1 s,f2 s,f3 s)))=some (a,b,c,some (x,y,z)):=by
 cases o with
 |none=>cases h1
 |some r =>
  simp only[Option.map_some,Option.some.injEq,Prod.mk.injEq]at h1 h2 h3 ⊢;obtain⟨a1,a2,a3,a4⟩:=h1;obtain⟨_,_,_,b4⟩:=h2;obtain⟨_,_,_,c4⟩:=h3;cases hr:h r with
  |none=>rw[hr]at a4;cases a4
  |some s =>
   rw[hr]at a4 b4 c4;refine⟨a1,a2,a3,?_⟩;simp only[Option.map_some,Option.some.injEq]at a4 b4 c4 ⊢;rw[a4,b4,c4]
def aoL{R S A B C X Y:Type _}{o:Option R}{f:R->A}{g:R->B}{k:R->C}{h:R->Option S}{f1:S->X}{f2:S->Y}{a:A}{b:B}{c:C}{x:X}{y:Y}(h1:(o.map λr=>(f r,g r,k r,(h r).map f1))=some (a,b,c,some x))(h2:(o.map λr=>(f r,g r,k r,(h r).map f2))=some (a,b,c,some y)):(o.map λr=>(f r,g r,k r,(h r).map λs=>(f1 s,f2 s)))=some (a,b,c,some (x,y)):=by
 cases o with
 |none=>cases h1
 |some r =>
  simp only[Option.map_some,Option.some.injEq,Prod.mk.injEq]at h1 h2 ⊢;obtain⟨a1,a2,a3,a4⟩:=h1;obtain⟨_,_,_,b4⟩:=h2;cases hr:h r with
  |none=>rw[hr]at a4;cases a4
  |some s =>
   rw[hr]at a4 b4;refine⟨a1,a2,a3,?_⟩;simp only[Option.map_some,Option.some.injEq]at a4 b4 ⊢;rw[a4,b4]
noncomputable def sR{α:Type}(w:World)(os:OsState)(f:Shared->α):=(segRunT treeTable p w 11 ann 1 50000 (S1 w os) (piecesOf ((behindTheImports p).drop 105) (env p) (cE p) e1 B)).map λr=>(r.1,r.2.2.1,r.2.2.2,(topRun treeTable p w 11 ann 2 r.2.1.abs ⟨doneF .next,cE p,e,B⟩).map f)
def sn0(w:World):(λos=>sR w os λs=>(openSeen qv [] (importedModules p.main.body) Xt true s).1)=λ_=>some (.next,cE p,e,some ((openGood qv []).1)):=by
 unfold sR;rw[Fast.te10110043849684766642,Fast.te14364793385576792824,Fast.te14082659384304107361,Fast.te4187177175401517315,Fast.te5923862056798008813];kernel_rfl
def sn1(w:World):(λos=>sR w os λs=>(openSeen qv [] (importedModules p.main.body) Xt true s).2)=λ_=>some (.next,cE p,e,some ((openGood qv []).2)):=by
 unfold sR;rw[Fast.te10110043849684766642,Fast.te14364793385576792824,Fast.te14082659384304107361];kernel_rfl
def aov(w:World):(λos=>sR w os λs=>openSeen qv [] (importedModules p.main.body) Xt true s)=λ_=>some (.next,cE p,e,some (openGood qv [])):=funext λos=>aoL (congrFun (sn0 w) os) (congrFun (sn1 w) os)
def ao2(w:World):(λos=>sR w os λs=>staticsOk (importedModules p.main.body) (boot_heap w.params) s.heap&&namesBound p s.heap&&gensDone s&&laidKept (boot_heap w.params) s.heap)=λ_=>some (.next,cE p,e,some (true)):=by
 unfold sR;rw[Fast.te10110043849684766642,Fast.te14364793385576792824,Fast.te14082659384304107361];kernel_rfl
def aoB(w:World):(λos=>sR w os λs=>asH.map s.heap.get?)=λ_=>some (.next,cE p,e,some ((KH w.params).map λp=>some p.2)):=by
 unfold sR;rw[Fast.te10110043849684766642,Fast.te14364793385576792824,Fast.te14082659384304107361];kernel_rfl
def big(w:World):(λos=>sR w os λs=>(staticsOk (importedModules p.main.body) (boot_heap w.params) s.heap&&namesBound p s.heap&&gensDone s&&laidKept (boot_heap w.params) s.heap,openSeen qv [] (importedModules p.main.body) Xt true s,asH.map s.heap.get?))=λ_=>some (.next,cE p,e,some (true,openGood qv [],(KH w.params).map λp=>some p.2)):=funext λos=>comb (congrFun (ao2 w) os) (congrFun (aov w) os) (congrFun (aoB w) os)
def left:LeftO p qv [] Xt (λs=>asH.map s.heap.get?) (λw=>(KH w.params).map λp=>some p.2) 200000 :=
 ZL (boot_open rfl rfl λ_=>rfl) pre block (λw os=>oX.cutAt (congrFun (alM w) os) (oX.last (congrFun (big w) os))) rfl
def hX(s:Shared)(h:Xt s=true):XL qv [] (s.heap.nsMap mainGlobals) s.heap:=xl_of s (Bool.and_eq_true_iff.mp h).1
def hR(s:Shared)(h:Xt s=true):RecFacts R.records s.heap:=recFacts_of (Bool.and_eq_true_iff.mp h).2
end H36
noncomputable section
abbrev zh:=List (Nat×Rat)
abbrev zt:=List (Option Nat)
abbrev zD:=List Nat
abbrev xz:=Option Int
abbrev xk:=List Bool
abbrev xy:=List Int
abbrev xp:=List (List Rat)
abbrev xo:=List Rat
abbrev xC:=Option Nat
abbrev xS:=Option Bool
abbrev wx:=List (List zh)
abbrev wv:=List (List zD)
abbrev wf:=List zD
def wp{p:Prop}(h:p:=by decide):p:=h
def wo{p:Prop}(h:p:=by lia):p:=h
def wr{p:Prop}(h:p:=by simp):p:=h
namespace L2
open PySem PySem.Spec PyProof.Rows
abbrev xA:=List Keyword
abbrev xE:=Array GenState
abbrev xD:=List (Str×NameKind)
abbrev xB:=List Stmt
abbrev xa:=List PyData
abbrev xi:=Array Value
abbrev xh:=List (Str×Value)
abbrev xl:=List Env
abbrev xw:=List (Str×Addr)
abbrev zS:=List (Str×Rat)
abbrev ze:=List Expr
abbrev Key:=Sum Int Str
abbrev xn:=List Key
def Ds:Key->Value->Bool
 |.inl k,v=>Value.isInt k v
 |.inr x,v=>Value.isStrOf x v
def aog(w:World):Key->Int
 |.inl k=>hashInt k
 |.inr x=>hashStr w x
def gM:∀{k:Key}{v:Value},Ds k v=true->(∃i t,k=Sum.inl i/\v=Value.int i t)\/(∃x t,k=Sum.inr x/\v=Value.str x t)
 |.inl i,v,h=>by
  obtain⟨t,e⟩:=Value.isInt_shape (k:=i) (v:=v) h;exact .inl ⟨i,t,rfl,e⟩
 |.inr x,v,h=>by
  obtain⟨t,e⟩:=Value.isStrOf_shape (x:=x) (v:=v) h;exact .inr ⟨x,t,rfl,e⟩
def Zv(i:Int)(t:Tok):Ds (.inl i) (.int i t)=true:=by simp[Ds,Value.isInt]
def Z_(x:Str)(t:Tok):Ds (.inr x) (.str x t)=true:=by simp[Ds,Value.isStrOf]
def agU(a b:Int):decide ((Sum.inl a:Key)=Sum.inl b)=(a==b):=by
 by_cases e:a=b
 .subst e;simp
 .have h:¬(Sum.inl a:Key)=Sum.inl b:=λq=>e (Sum.inl.inj q);rw[Zp h];exact(beq_eq_false_iff_ne.mpr e).symm
def ahb(a b:Str):decide ((Sum.inr a:Key)=Sum.inr b)=decide (a=b):=by
 by_cases e:a=b
 .subst e;simp
 .have h:¬(Sum.inr a:Key)=Sum.inr b:=λq=>e (Sum.inr.inj q);rw[Zp h,Zp e]
def aha(a:Int)(b:Str):decide ((Sum.inl a:Key)=Sum.inr b)=false:=Zp (λq=>nomatch q)
def ahO(a:Str)(b:Int):decide ((Sum.inr a:Key)=Sum.inl b)=false:=Zp (λq=>nomatch q)
def gG(prog:Program)(w:World):PySem.KeyKind prog w Key where
 is:=Ds
 hash:=aog w
 inj:=λv a b ha hb=>by
  rcases gM ha with⟨i,t,rfl,rfl⟩|⟨x,t,rfl,rfl⟩
  .rcases gM hb with⟨j,u,rfl,e⟩|⟨y,u,rfl,e⟩
   .injection e with e1 _;rw[e1]
   .exact nomatch e
  .rcases gM hb with⟨j,u,rfl,e⟩|⟨y,u,rfl,e⟩
   .exact nomatch e
   .injection e with e1 _;rw[e1]
 byValue:=λk v h=>by
  rcases gM h with⟨i,t,rfl,rfl⟩|⟨x,t,rfl,rfl⟩<;>rfl
 pyHash:=λhv h=>by
  rcases gM hv with⟨i,t,rfl,rfl⟩|⟨x,t,rfl,rfl⟩
  .exact wpAny_pyHash_int h
  .exact wpAny_pyHash_str h
 eqBool:=λhu hv h=>by
  rcases gM hu with⟨i,t,rfl,rfl⟩|⟨x,t,rfl,rfl⟩
  .rcases gM hv with⟨j,u,rfl,rfl⟩|⟨y,u,rfl,rfl⟩
   .rw[agU]at h;exact wpAny_eqBool_int h
   .rw[aha]at h;exact SeqAt.EqAt.int_str i t y u _ _ _ _ h
  .rcases gM hv with⟨j,u,rfl,rfl⟩|⟨y,u,rfl,rfl⟩
   .rw[ahO]at h;exact SeqAt.EqAt.str_int x t j u _ _ _ _ h
   .rw[ahb]at h;exact wpAny_eqBool_str h
 «strs»:=λk x t v h=>by
  rcases gM h with⟨i,u,rfl,e⟩|⟨y,u,rfl,e⟩
  .exact nomatch e
  .injection e with e1 _;subst e1;cases v<;>rfl
def U4(prog:Program)(w:World)(i:Int)(t:Tok):(gG prog w).is (.inl i) (.int i t)=true:=Zv i t
def UL(prog:Program)(w:World)(x:Str)(t:Tok):(gG prog w).is (.inr x) (.str x t)=true:=Z_ x t
inductive V where
 |non|bl (b:Bool)|int (i:Int)|str (x:Str)|byt (b:Array UInt8)|flt (b:UInt64)|ref (a:Addr)|ty (n:String)
 deriving DecidableEq
abbrev xL:=Option V
abbrev xF:=List (Key×V)
abbrev xt:=List (Str×V)
abbrev Ε:=List V
def z4:V->Value->Prop
 |.non,u=>u=Value.none
 |.bl b,u=>u=Value.bool b
 |.int i,u=>∃t,u=Value.int i t
 |.str x,u=>∃t,u=Value.str x t
 |.byt b,u=>∃t,u=Value.bytes b t
 |.flt b,u=>∃t,u=Value.float b t
 |.ref a,u=>u=Value.ref a
 |.ty n,u=>u=Value.type n
abbrev z5:Ε->Δ->Prop:=Paired z4
def z5.length{xs:Ε}{us:Δ}(r:z5 xs us):xs.length=us.length:=Paired.length r
theorem z5.get:∀{xs:Ε}{us:Δ}{i:Nat}{x:V},z5 xs us->xs[i]?=some x->∃u,us[i]?=some u/\z4 x u
 |_,_,_,_,.nil,e=>by simp at e
 |_,_,0,_,.cons r _,e=>by simp at e;subst e;exact⟨_,rfl,r⟩
 |_,_,i+1,x,.cons _ t,e=>by
  obtain⟨u,h1,h2⟩:=z5.get (i:=i) (x:=x) t (by simpa using e);exact⟨u,by simpa using h1,h2⟩
theorem z5.set{x:V}{u:Value}(r:z4 x u):∀{xs:Ε}{us:Δ}(i:Nat),z5 xs us->z5 (xs.set i x) (us.set i u)
 |_,_,_,.nil=>.nil
 |_,_,0,.cons _ t=>.cons r t
 |_,_,i+1,.cons q t=>.cons q (z5.set r i t)
theorem z5.append:∀{xs ys:Ε}{us ws:Δ},z5 xs us->z5 ys ws->z5 (xs++ys) (us++ws)
 |_,_,_,_,.nil,s=>s
 |_,_,_,_,.cons r t,s=>.cons r (z5.append t s)
theorem z5.take:∀{xs:Ε}{us:Δ}(n:Nat),z5 xs us->z5 (xs.take n) (us.take n)
 |_,_,0,_=>.nil
 |_,_,_+1,.nil=>.nil
 |_,_,n+1,.cons r t=>.cons r (z5.take n t)
theorem z5.drop:∀{xs:Ε}{us:Δ}(n:Nat),z5 xs us->z5 (xs.drop n) (us.drop n)
 |_,_,0,r=>r
 |_,_,_+1,.nil=>.nil
 |_,_,n+1,.cons _ t=>z5.drop n t
def yt:xL->Ψ->Prop
 |some v,some u=>z4 v u
 |none,none=>True
 |_,_=>False
def KV{κ:Type} : List (κ×V)->List (κ×Value)->Prop:=Paired λ(p:κ×V)(q:κ×Value)=>p.1=q.1/\z4 p.2 q.2
def kV:Key->V
 |.inl i=>.int i
 |.inr x=>.str x
inductive HO where
  |lst (xs:Ε)
  |tup (xs:Ε)
  |dK (kvs:xF)
  |set (S:Int->Bool) (n:Nat)
  |ins (C dx:Addr) (fs:xt)
  |own (x:Addr)
  |xd (fs:xt)
  |met (f x:Addr)
  |rng (lo hi:Int)
  |frz (o:Obj) (u:HO)
  |tbl (ps:xi)
  |ext (φ:Heap->Prop)
abbrev Hp:=Addr->Option HO
def upd(H:Hp)(a:Addr)(o:HO):Hp:=λb=>if b=a then some o else H b
variable{H H':Hp}{a b x e:Addr}{o o':HO}{P:Program}{w:World}{h h':Heap}
def bW : upd H a o a=some o:=by unfold upd;rw[ZY rfl]
def bU(h:b≠a):upd H a o b=H b:=by unfold upd;rw[ZZ h]
def Js{u:HO}(h:H a=some o)(h':H b=some u)(d:o≠u):a≠b:=by
 intro e;subst e;rw[h]at h';exact d (Option.some.inj h')
def lH(h:H a=some o)(h':H b=none):a≠b:=by
 intro e;subst e;rw[h]at h';cases h'
section
variable(P:Program)(w:World)
def eZ(H:Hp)(h:Heap)(a:Addr):HO->Prop
 |.lst xs=>xs.length<=sizeLine/\∃(its:Δ)(n:Nat),z5 xs its/\h.get? a=some { cls:=.type "list",data:=.seq its.toArray n }
 |.tup xs=>xs.length<=sizeLine/\∃its:Δ,z5 xs its/\IsTup h a its.toArray
 |.dK kvs=>kvs.length<=sizeLine/\(a==sysModules)=false/\∃vs,KV kvs vs/\h.DictOf (gG P w) a vs
 |.set S n=>h.SetOf (intKind P w) a S n
 |.ins C dx fs=>H dx=some (.own a)/\fs.length<=1000/\dx≠a/\h.get? a=some (instObj C dx) /\
   ∃mA,h.Ns1 dx mA/\(∀f,yt (fs.lookup f) (mA f))/\PySem.Within mA (fs.map (·.1))
 |.own _=>∃o,h.get? a=some o
 |.xd fs=>∃mA,h.Ns1 a mA/\∀f,yt (fs.lookup f) (mA f)
 |.rng lo hi=>∃t u v,h.get? a=some { cls:=.type "range",data:=.fields #[.int lo t,.int hi u,.int 1 v] }
 |.frz o u=>h.get? a=some o/\eZ H h a u
 |.tbl ps=>h.get? a=some { cls:=.none,data:=.fields ps }
 |.met f x=>h.get? a=some (methodObj (.ref f) (.ref x))
 |.ext φ=>φ h/\(∃o,h.get? a=some o)/\∀h1 h2:Heap,φ h1->(∀o,h1.get? a=some o->h2.get? a=some o)->φ h2
def HOk(H:Hp)(h:Heap):Prop:=∀a o,H a=some o->eZ P w H h a o
end
def eZ.lt(x:eZ P w H h a o):a<h.objs.size:=by
 cases o with
 |lst xs=>obtain⟨_,_,_,_,e⟩:=x;exact aK e
 |tup xs=>obtain⟨_,_,_,p⟩:=x;exact p.lt
 |dK kvs=>obtain⟨_,_,_,_,o,_,_,e,_⟩:=x;exact aK e
 |set S n=>obtain⟨o,_,_,_,e,_⟩:=x;exact aK e
 |ins C dx fs=>obtain⟨_,_,_,e,_⟩:=x;exact aK e
 |own y=>obtain⟨_,e⟩:=x;exact aK e
 |xd fs=>obtain⟨_,⟨_,_,_,e,_⟩,_⟩:=x;exact aK e
 |rng lo hi=>obtain⟨_,_,_,e⟩:=x;exact aK e
 |frz ob u=>obtain⟨e,_⟩:=x;exact aK e
 |tbl ps=>exact aK (show h.get? a=some _ from x)
 |met f y=>exact aK (show h.get? a=some _ from x)
 |ext φ=>obtain⟨_,⟨_,e⟩,_⟩:=x;exact aK e
def eZ.stay(x:eZ P w H h a o)(k:∀b u,(b=a\/H b=some (.own a))->h.get? b=some u->h'.get? b=some u)
 (ho:∀b,H b=some (.own a)->H' b=some (.own a))(ht:∀b xs,H b=some (.tup xs)->H' b=some (.tup xs)):eZ P w H' h' a o:=by
 induction o with
 |lst xs=>obtain⟨z,its,n,r,e⟩:=x;exact⟨z,its,n,r,k _ _ (.inl rfl) e⟩
 |tup xs=>obtain⟨z,its,r,ob,e,c⟩:=x;exact⟨z,its,r,ob,k _ _ (.inl rfl) e,c⟩
 |dK kvs=>obtain⟨z,y,vs,r,ob,es,ep,e,c⟩:=x;exact⟨z,y,vs,r,ob,es,ep,k _ _ (.inl rfl) e,c⟩
 |set S n=>obtain⟨ob,es,ep,t,e,c⟩:=x;exact⟨ob,es,ep,t,k _ _ (.inl rfl) e,c⟩
 |ins C dx fs =>
  obtain⟨d,z,ne,e,mA,⟨od,es,ep,e2,c⟩,r⟩:=x;exact⟨ho _ d,z,ne,k _ _ (.inl rfl) e,mA,⟨od,es,ep,k _ _ (.inr d) e2,c⟩,r⟩
 |own y=>obtain⟨ob,e⟩:=x;exact⟨ob,k _ _ (.inl rfl) e⟩
 |xd fs=>obtain⟨mA,⟨od,es,ep,e,c⟩,r⟩:=x;exact⟨mA,⟨od,es,ep,k _ _ (.inl rfl) e,c⟩,r⟩
 |rng lo hi=>obtain⟨t,u,v,e⟩:=x;exact⟨t,u,v,k _ _ (.inl rfl) e⟩
 |frz ob u ih=>obtain⟨e,q⟩:=x;exact⟨k _ _ (.inl rfl) e,ih q⟩
 |tbl ps =>
  have e:h.get? a=some { cls:=.none,data:=.fields ps }:=x;show h'.get? a=some { cls:=.none,data:=.fields ps };exact k a _ (.inl rfl) e
 |met f y =>
  have e:h.get? a=some (methodObj (.ref f) (.ref y)):=x;show h'.get? a=some (methodObj (.ref f) (.ref y));exact k a _ (.inl rfl) e
 |ext φ=>obtain⟨p,⟨o,e⟩,st⟩:=x;exact⟨st _ _ p λo q=>k _ _ (.inl rfl) q,⟨o,k _ _ (.inl rfl) e⟩,st⟩
def HOk.lt(x:HOk P w H h)(e:H a=some o):a<h.objs.size:=(x a o e).lt
def HOk.fresh(x:HOk P w H h)(e:h.objs.size<=a):H a=none:=by
 cases q:H a with
 |none=>rfl
 |some u=>exact absurd (aR (x.lt q) e) (X2 _)
def HOk.kept(x:HOk P w H h)(k:∀b u,h.get? b=some u->h'.get? b=some u):HOk P w H h':=λa o e =>
 (x a o e).stay (λb u _ q=>k b u q) (λ_ q=>q) λ_ _ q=>q
def HOk.laid(x:HOk P w H h)(k:∀b u,h.get? b=some u->h'.get? b=some u)(hp:h.objs.size<=a)(new:eZ P w (upd H a o) h' a o):HOk P w (upd H a o) h':=λb u e=>by
 have hn:=x.fresh hp;by_cases hb:b=a
 .subst hb;rw[bW]at e;cases e;exact new
 .rw[bU hb]at e;exact(x b u e).stay (λc v _ q=>k c v q) (λc q=>by rwa[bU (lH q hn)]) λc xs q=>by rwa[bU (lH q hn)]
def Rd(H:Hp)(a:Addr)(u:HO):Prop:=H a=some u\/∃o,H a=some (.frz o u)
def Rd.ok{u:HO}(r:Rd H a u)(x:HOk P w H h):eZ P w H h a u:=by
 rcases r with r|⟨o,r⟩
 .exact x a u r
 .obtain⟨_,q⟩:=x a _ r;exact q
def Mut:Option HO->Prop
 |some (.lst _)=>True
 |some (.dK _)=>True
 |some (.set _ _)=>True
 |some (.ins _ _ _)=>True
 |some (.ext _)=>True
 |_=>False
def HOk.write(ok:HOk P w H h)(mu:Mut (H x))(he:e=x\/H e=some (.own x))(k:∀b u,b≠e->h.get? b=some u->h'.get? b=some u)(i8:∃u,h'.get? e=some u)
 (new:eZ P w (upd H x o') h' x o'):HOk P w (upd H x o') h':=λb u q=>by
 have j1:∀c y,H c=some (.own y)->c≠x:=λc y r z=>by subst z;rw[r]at mu;exact mu
 have mw:∀c xs,H c=some (.tup xs)->c≠x:=λc xs r z=>by subst z;rw[r]at mu;exact mu
 by_cases hb:b=x
 .subst hb;rw[bW]at q;cases q;exact new
 .rw[bU hb]at q;by_cases hbe:b=e
  .have q':H b=some (.own x):=by
    rcases he with z|z
    .exact absurd (hbe.trans z) hb
    .rw[hbe];exact z
   rw[q]at q';cases q';obtain⟨v,hv⟩:=i8;exact⟨v,by rwa[hbe]⟩
  .refine(ok b u q).stay (λc v hc r=>k c v ?_ r) (λc r=>by rwa[bU (j1 c b r)]) λc xs r=>by rwa[bU (mw c xs r)]
   rcases hc with rfl|hc
   .exact hbe
   .rintro rfl;rcases he with z|z
    .exact j1 c b hc z
    .rw[hc]at z;cases z;exact hb rfl
structure Un(fs ex:Φ)(H H':Hp)(h h':Heap):Prop where
 keep:∀b o,h.get? b=some o->H b=none->b∉fs->b∉ex->h'.get? b=some o
 slot:∀b o,h.get? b=some o->H b=none->b∈fs->b∉ex->∃sl,h'.get? b=some { o with slots:=sl }
 free:∀b o,h.get? b=some o->H b=none->b∉ex->H' b=none
 there:∀b o,h.get? b=some o->b∉ex->∃o',h'.get? b=some o'
 tups:∀b xs,H b=some (.tup xs)->H' b=some (.tup xs)
 frzs:∀b o u,H b=some (.frz o u)->H' b=some (.frz o u)
 tbls:∀b ps,H b=some (.tbl ps)->∃more,H' b=some (.tbl (ps++more))
section
variable{fs fs' ex ex':Φ}{H H1 H2:Hp}{h h1 h2 h':Heap}{a x e:Addr}{o:HO}
def Un.any(u:Un fs ex H H1 h h1){ob:Obj}(q:h.get? b=some ob)(n:H b=none)(hx:b∉ex):∃sl,h1.get? b=some { ob with slots:=sl }:=by
 by_cases hb:b∈fs
 .exact u.slot b ob q n hb hx
 .exact⟨ob.slots,u.keep b ob q n hb hx⟩
def Un.kept(k:∀b u,h.get? b=some u->h'.get? b=some u):Un fs ex H H h h' :=
 ⟨λb ob q _ _ _=>k b ob q,λb ob q _ _ _=>⟨ob.slots,k b ob q⟩,λ_ _ _ n _=>n,λb ob q _=>⟨ob,k b ob q⟩,λ_ _ q=>q,λ_ _ _ q=>q,λ_ ps q=>⟨#[],by rw[q];simp⟩⟩
def Un.refl:Un fs ex H H h h:=Un.kept λ_ _ q=>q
def Un.laid(k:∀b u,h.get? b=some u->h'.get? b=some u)(hp:h.objs.size<=a)(hn:H a=none):Un fs ex H (upd H a o) h h' where
 keep:=λb u q _ _ _=>k b u q
 slot:=λb u q _ _ _=>⟨u.slots,k b u q⟩
 free:=λb u q n _=>by rwa[bU (aQ (aR (aK q) hp))]
 there:=λb u q _=>⟨u,k b u q⟩
 tups:=λb xs q=>by rwa[bU (lH q hn)]
 frzs:=λb u xs q=>by rwa[bU (lH q hn)]
 tbls:=λb ps q=>⟨#[],by rw[bU (lH q hn),q];simp⟩
def Un.write(mu:Mut (H x))(he:e=x\/H e=some (.own x))(k:∀b u,b≠e->h.get? b=some u->h'.get? b=some u)(i8:∃u,h'.get? e=some u):Un fs ex H (upd H x o) h h':=by
 have hx:∀b,H b=none->b≠x:=λb n z=>by subst z;rw[n]at mu;exact mu
 have hb:∀b,H b=none->b≠e:=λb n z=>by
  subst z;rcases he with r|r
  .exact hx b n r
  .rw[n]at r;cases r
 have hm:∀b u,H b=some u->¬Mut (some u)->b≠x:=λb u q nm z=>by subst z;rw[q]at mu;exact nm mu
 refine⟨λb u q n _ _=>k b u (hb b n) q,λb u q n _ _=>⟨u.slots,k b u (hb b n) q⟩,λb u q n _=>by rw[bU (hx b n)];exact n,λb u q _=>?_,
  λb xs q=>by rw[bU (hm b _ q λz=>z)];exact q,λb u xs q=>by rw[bU (hm b _ q λz=>z)];exact q,λb ps q=>⟨#[],by rw[bU (hm b _ q λz=>z),q];simp⟩⟩
 by_cases hbe:b=e
 .subst hbe;exact i8
 .exact⟨u,k b u hbe q⟩
end
def trk(h:Heap)(H:Hp):Φ:=(List.range h.objs.size).filter λa=>(H a).isSome
def Sq(h:Heap)(H:Hp):Heap:=hideAll h (trk h H)
def ZM(h:Heap)(H:Hp):(Sq h H).objs.size=h.objs.size:=PySem.W.hideAll_size _ _
variable{o:Obj}
def acY(e:h.get? b=some o)(n:H b=none):(Sq h H).get? b=some o :=
 hideAll_get _ e λhm=>by
  have q:(H b).isSome=true:=(List.mem_filter.mp hm).2;rw[n]at q;simp at q
def afx(e:(Sq h H).get? b=some o):h.get? b=some o/\H b=none:=by
 have e':h.get? b=some o:=of_hideAll (trk h H) e;refine⟨e',?_⟩;cases q:H b with
 |none=>rfl
 |some x =>
  have hm:b∈trk h H:=List.mem_filter.mpr ⟨List.mem_range.mpr (aK e'),by simp[q]⟩;have z:(Sq h H).get? b=none:=PySem.W.hideAll_none (trk h H) hm;rw[z]at e;cases e
def afE(g h:Heap)(L:Addr):Γ:=(List.range h.objs.size).filterMap λa=>if a=L\/(g.get? a).isSome=true then none else(h.get? a).map λo=>(a,o)
def rest(g h:Heap)(L d:Addr):Γ:=(afE g h L).filter λp=>decide (p.1≠d)
structure Mod(K:Frag)(mg:Str->Ψ)(base:Heap):Prop where
 kin:K.In base
 glob:base.Ns mainGlobals mg
 blt:∃mb,base.Ns builtinsNs mb/\∀x:Str,x≠"__name__"->mb x=bootBuiltins x
 nolimit:base.NoLimit
structure Cx where
 prog:Program
 w:World
 K:Frag
 mg:Str->Ψ
 base:Heap
 A:Around
 N:Θ
 s₀:Shared
 H₀:Hp
 env:Env
 outer:xl
 stack:xl
 ex:Φ
 fn:Str->Bool
 calm:Bool
 pn:Γ
 xe:Β
def frs(l:xl):Φ:=l.filterMap (·.frame)
abbrev Cx.fs(X:Cx):Φ:=frs X.outer
def Vis(sc:Scope)(x:Str):Prop:=sc.names.lookup x=some .local\/sc.names.lookup x=some .cell\/sc.names.lookup x=some .free
def Loc(sc:Scope)(x:Str):Prop:=sc.names.lookup x=some .local\/sc.names.lookup x=some .cell
def Look(env:Env)(h:Heap)(m:Str->Ψ)(x:Str)(u:Value):Prop :=
 (env.kindOf x=some .local/\m x=some u)\/((env.kindOf x=some .cell\/env.kindOf x=some .free)/\∃c,env.cells.lookup x=some c/\h.IsCell c (some u))
structure Cx.Ok(X:Cx):Prop where
 mod:Mod X.K X.mg X.base
 kind:X.env.scope.kind=.function
 glob:X.env.globals=mainGlobals
 blt:X.env.builtins=builtinsNs
 above:X.s₀.heap.objs.size<=X.env.locals
 inj:∀x y c,X.env.cells.lookup x=some c->X.env.cells.lookup y=some c->x=y
 has:∀x,(X.env.kindOf x=some .cell\/X.env.kindOf x=some .free)->∃c,X.env.cells.lookup x=some c
 cab:∀x c,X.fn x=true->X.env.cells.lookup x=some c->X.s₀.heap.objs.size<=c
 hd:X.calm=true->X.A.handled=none
 frames:X.A.frames=some X.stack
 stk:X.stack=X.outer\/(X.stack=X.env::X.outer/\X.env.frame=some X.env.locals)
 exf:∀b∈X.ex,b≠X.env.locals/\∀x c,X.env.cells.lookup x=some c->c≠b
 bs:∀b o,X.base.get? b=some o->X.s₀.heap.get? b=some o/\X.H₀ b=none
 bsz:X.base.objs.size<=X.s₀.heap.objs.size
 noex:∀b o,X.base.get? b=some o->b∉X.ex
 exfs:∀b∈X.ex,b∉X.fs
 funs:X.s₀.heap.FunFrames X.base X.outer
 frf:∀b∈X.fs,X.H₀ b=none
structure Inv(X:Cx)(aa:Γ)(σ:List xL)(H:Hp)(s:Shared):Prop where
 ok:X.Ok
 os:s.os=X.s₀.os
 bare:AllBare s.gens
 base:Un X.fs X.ex X.H₀ H X.s₀.heap s.heap
 loc:∃m,s.heap.Ns X.env.locals m/\∀(i:Nat)(x:Str)(v:V),X.N[i]?=some x->σ[i]?=some (some v)->Vis X.env.scope x->∃u,z4 v u/\Look X.env s.heap m x u
 cell:∀x c,X.env.cells.lookup x=some c->∃v,s.heap.IsCell c v
 free:H X.env.locals=none
 freeC:∀x c,X.env.cells.lookup x=some c->H c=none
 pin:∀p∈X.pn++aa,s.heap.get? p.1=some p.2/\H p.1=none/\p.1≠X.env.locals/\p.1∉X.fs/\∀v,p.2.data≠.cell v
 hok:HOk X.prog X.w H s.heap
 len:σ.length=X.N.length
variable{X:Cx}{aa:Γ}{σ:List xL}{s s':Shared}{t' i:Nat}{ch:Φ}{x:Str}{u:Value}{M:Model}{A:Around}{E:Β}{v:V}{Q:Unit->Shared->Prop}{e:Expr}
def Cx.Ok.nofr(ok:X.Ok)(e:X.base.get? b=some o):b∉X.fs:=λhb=>by
 have:=(ok.funs.mem hb).1;rw[e]at this;cases this
def Inv.bs(I:Inv X aa σ H s):∀b o,X.base.get? b=some o->s.heap.get? b=some o/\H b=none:=λb o e =>
 ⟨I.base.keep b o (I.ok.bs b o e).1 (I.ok.bs b o e).2 (I.ok.nofr e) (I.ok.noex b o e),I.base.free b o (I.ok.bs b o e).1 (I.ok.bs b o e).2 (I.ok.noex b o e)⟩
def Inv.bk(I:Inv X aa σ H s):∀b o,X.base.get? b=some o->s.heap.get? b=some o:=λb o e=>(I.bs b o e).1
def Inv.mod(I:Inv X aa σ H s):Mod X.K X.mg X.base:=I.ok.mod
def Inv.kIn(I:Inv X aa σ H s):X.K.In s.heap:=I.ok.mod.kin.keeps I.bk
def Inv.fr(I:Inv X aa σ H s):∃m,Fr X.base X.env.locals s.heap m :=
 let⟨m,hn,_⟩:=I.loc
 ⟨m,hn,I.bk,aL I.ok.bsz I.ok.above⟩
def Inv.lt(I:Inv X aa σ H s):X.env.locals<s.heap.objs.size:=by obtain⟨_,hn,_⟩:=I.loc;exact hn.lt
def Inv.sz(I:Inv X aa σ H s):X.s₀.heap.objs.size<=s.heap.objs.size:=aL I.ok.above (Y2 I.lt)
def Inv.nofs(I:Inv X aa σ H s)(h:s.heap.objs.size<=a):a∉X.fs:=λhb=>by
 obtain⟨_,o,ho,_⟩:=I.ok.funs.mem hb;exact absurd (aR (aK ho) (aL I.sz h)) (X2 _)
def Inv.cne(I:Inv X aa σ H s):∀x c,X.env.cells.lookup x=some c->c≠X.env.locals:=λx c e z=>by
 obtain⟨v,o,ho,hd⟩:=I.cell x c e;obtain⟨m,⟨o',es,ep,di,bn,_⟩,_⟩:=I.loc;rw[z,di]at ho;cases ho;rw[bn]at hd;cases hd
def Inv.funs(I:Inv X aa σ H s):s.heap.FunFrames X.base X.outer:=by
 have all:∀(l:xl),(∀b∈frs l,b∈X.fs)->X.s₀.heap.FunFrames X.base l->s.heap.FunFrames X.base l:=by
  intro l
  induction l with
  |nil=>intro _ _;trivial
  |cons env r ih =>
   intro hs hl;obtain⟨hk,⟨L,o,hf,hn,ho,hd⟩,hr⟩:=hl;have hL:L∈X.fs:=hs L (by unfold frs;rw[List.filterMap_cons,hf];exact aO);obtain⟨sl,e⟩:=I.base.slot L o ho (I.ok.frf L hL) hL λz=>I.ok.exfs L z hL;exact⟨hk,⟨L,_,hf,hn,e,hd⟩,ih (λb hb=>hs b (by unfold frs;rw[List.filterMap_cons,hf];exact aJ _ hb)) hr⟩
 exact all X.outer (λ_ hb=>hb) I.ok.funs
def Inv.stack(I:Inv X aa σ H s):s.heap.FunFrames X.base X.stack:=by
 rcases I.ok.stk with e|⟨e,hf⟩
 .rw[e];exact I.funs
 .rw[e];obtain⟨m,hn,_⟩:=I.loc;refine .cons (by rw[I.ok.kind];decide) hf hn ?_ I.funs;exact Heap.get?_none_of_le (aL I.ok.bsz I.ok.above)
def Inv.stkSub(I:Inv X aa σ H s):∀b∈frs X.stack,b∈X.env.locals::X.fs:=λb hb=>by
 rcases I.ok.stk with e|⟨e,hf⟩
 .rw[e]at hb;exact aJ _ hb
 .rw[e]at hb;unfold frs at hb;rw[List.filterMap_cons,hf]at hb;exact hb
def Inv.stkFree(I:Inv X aa σ H s):∀b∈frs X.stack,H b=none:=λb hb=>by
 rcases YU.mp (I.stkSub b hb)with e|hb
 .rw[e];exact I.free
 .obtain⟨_,o,ho,_⟩:=I.ok.funs.mem hb;exact I.base.free b o ho (I.ok.frf b hb) λz=>I.ok.exfs b z hb
def Inv.step{g':xE}{d':Drawn}(I:Inv X aa σ H s)
 (gh:∀b∈ch,(b∈X.ex\/X.s₀.heap.objs.size<=b)/\b≠X.env.locals/\(∀x c,X.env.cells.lookup x=some c->c≠b)/\∀p∈X.pn++aa,p.1≠b)
 (keep:∀b o,b≠X.env.locals->b∉X.fs->b∉ch->s.heap.get? b=some o->H b=none->h'.get? b=some o)
 (slot:∀b o,b≠X.env.locals->b∈X.fs->b∉ch->s.heap.get? b=some o->H b=none->∃sl,h'.get? b=some { o with slots:=sl })(free:∀b o,b∉ch->s.heap.get? b=some o->H b=none->H' b=none)
 (there:∀b o,b∉ch->s.heap.get? b=some o->∃o',h'.get? b=some o')
 (tups:∀b xs,H b=some (.tup xs)->H' b=some (.tup xs))(frzs:∀b o u,H b=some (.frz o u)->H' b=some (.frz o u))(tbls:∀b ps,H b=some (.tbl ps)->∃more,H' b=some (.tbl (ps++more)))
 (ns:∀m,s.heap.Ns X.env.locals m->h'.Ns X.env.locals m)(hok:HOk X.prog X.w H' h')(hg:AllBare g') :
  Inv X aa σ H' { s with heap:=h',gens:=g',drawn:=d',toks:=t' }:=by
 have neL:∀b o,X.s₀.heap.get? b=some o->b≠X.env.locals:=λb o e=>aQ (aR (aK e) I.ok.above);have kS:∀b o,X.s₀.heap.get? b=some o->b∉X.ex->b∉ch:=λb o e hx hb=>by
  rcases(gh b hb).1 with z|z
  .exact hx z
  .exact absurd (aR (aK e) z) (X2 _)
 have hZ:∀x c,X.env.cells.lookup x=some c->∀v,s.heap.IsCell c v->h'.IsCell c v:=λx c e v hP=>by
  obtain⟨o,ho,hd⟩:=hP;have ka:c∉ch:=λz=>(gh c z).2.2.1 x c e rfl;by_cases hc:c∈X.fs
  .obtain⟨sl,q⟩:=slot c o (I.cne x c e) hc ka ho (I.freeC x c e);exact⟨_,q,hd⟩
  .exact⟨o,keep c o (I.cne x c e) hc ka ho (I.freeC x c e),hd⟩
 refine⟨I.ok,I.os,hg,⟨λb o e n hb hx=>?_,λb o e n hb hx=>?_,λb o e n hx=>?_,λb o e hx=>?_,λb xs e=>tups b xs (I.base.tups b xs e),λb o xs e=>frzs b o xs (I.base.frzs b o xs e),λb ps e=>?_⟩,?_,λx c e=>?_,?_,λx c e=>?_,λp hp=>?_,hok,I.len⟩
 .exact keep b o (neL b o e) hb (kS b o e hx) (I.base.keep b o e n hb hx) (I.base.free b o e n hx)
 .obtain⟨sl,e1⟩:=I.base.slot b o e n hb hx;obtain⟨ic,e2⟩:=slot b _ (neL b o e) hb (kS b o e hx) e1 (I.base.free b o e n hx);exact⟨ic,e2⟩
 .obtain⟨o',e1⟩:=I.base.there b o e hx;exact free b o' (kS b o e hx) e1 (I.base.free b o e n hx)
 .obtain⟨o',e1⟩:=I.base.there b o e hx;exact there b o' (kS b o e hx) e1
 .obtain⟨m1,e1⟩:=I.base.tbls b ps e;obtain⟨m2,e2⟩:=tbls b _ e1;exact⟨m1++m2,by rw[e2,Array.append_assoc]⟩
 .obtain⟨m,hn,hl⟩:=I.loc;refine⟨m,ns m hn,λi x v e1 e2 e3=>?_⟩;obtain⟨u,r,l⟩:=hl i x v e1 e2 e3;refine⟨u,r,?_⟩;rcases l with l|⟨k,c,e,z⟩
  .exact .inl l
  .exact .inr ⟨k,c,e,hZ x c e _ z⟩
 .obtain⟨v,z⟩:=I.cell x c e;exact⟨v,hZ x c e v z⟩
 .obtain⟨m,⟨o,_,_,ho,_⟩,_⟩:=I.loc;exact free _ o (λz=>(gh _ z).2.1 rfl) ho I.free
 .obtain⟨v,o,ho,hd⟩:=I.cell x c e;exact free c o (λz=>(gh c z).2.2.1 x c e rfl) ho (I.freeC x c e)
 .obtain⟨e,n,ne,nf,d⟩:=I.pin p hp;have ka:p.1∉ch:=λz=>(gh p.1 z).2.2.2 p hp rfl;exact⟨keep p.1 p.2 ne nf ka e n,free p.1 p.2 ka e n,ne,nf,d⟩
def Inv.un(I:Inv X aa σ H s)(u:Un X.fs [] H H' s.heap h')(hok:HOk X.prog X.w H' h'):Inv X aa σ H' { s with heap:=h',toks:=t' }:=by
 obtain⟨m,⟨o,es,ep,ho,r⟩,_⟩:=id I.loc;obtain⟨sl,hL⟩:=u.any ho I.free wr;exact I.step (g':=s.gens) (d':=s.drawn) (ch:=[]) (λ_ z=>nomatch z) (λb o _ hb _ e n=>u.keep b o e n hb wr) (λb o _ hb _ e n=>u.slot b o e n hb wr) (λb o _ e n=>u.free b o e n wr) (λb o _ e=>u.there b o e wr) u.tups u.frzs u.tbls (λm' hm=>by
  obtain⟨o',gz,pM,di,r'⟩:=hm;rw[ho]at di;cases di;exact⟨_,gz,pM,hL,r'⟩) hok I.bare
def Inv.call{g':xE}{d':Drawn}(I:Inv X aa σ H s)(u:Un (frs X.stack) ch H H' s.heap h')(hok:HOk X.prog X.w H' h')(hg:AllBare g')
 (gh:∀b∈ch,(b∈X.ex\/X.s₀.heap.objs.size<=b)/\b≠X.env.locals/\(∀x c,X.env.cells.lookup x=some c->c≠b)/\∀p∈X.pn++aa,p.1≠b) :
  Inv X aa σ H' { s with heap:=h',gens:=g',drawn:=d',toks:=t' }:=by
 obtain⟨m,⟨o,es,ep,ho,r⟩,_⟩:=id I.loc;obtain⟨sl,hL⟩:=u.any ho I.free λz=>(gh _ z).2.1 rfl;exact I.step (ch:=ch) gh (λb o hL hb hc e n=>u.keep b o e n (λz=>(YU.mp (I.stkSub b z)).elim hL hb) hc) (λb o _ _ hc e n=>u.any e n hc) (λb o hc e n=>u.free b o e n hc) (λb o hc e=>u.there b o e hc) u.tups u.frzs u.tbls (λm' hm=>by
  obtain⟨o',gz,pM,di,r'⟩:=hm;rw[ho]at di;cases di;exact⟨_,gz,pM,hL,r'⟩) hok hg
def Inv.turned{it:Addr}(I:Inv X aa σ H s)(k:∀b o,b≠it->s.heap.get? b=some o->h'.get? b=some o)(hn:H it=none)(hL:it≠X.env.locals)
 (h1:it∈X.ex\/X.s₀.heap.objs.size<=it)(h2:∀x c,X.env.cells.lookup x=some c->c≠it)(h3:∀p∈X.pn++aa,p.1≠it):Inv X aa σ H { s with heap:=h',toks:=t' }:=by
 have j':∀b u,H b=some u->b≠it:=λb u e z=>by rw[z,hn]at e;cases e
 refine I.step (g':=s.gens) (d':=s.drawn) (ch:=[it]) (λb hb=>?_) (λb o _ _ hc e _=>k b o (λz=>hc (by simp[z])) e) (λb o _ _ hc e _=>⟨o.slots,k b o (λz=>hc (by simp[z])) e⟩) (λ_ _ _ _ n=>n)
  (λb o hc e=>⟨o,k b o (λz=>hc (by simp[z])) e⟩) (λ_ _ e=>e) (λ_ _ _ e=>e) (λb ps e=>⟨#[],by rw[e];simp⟩) (λm hm=>?_) (λb u e=>?_) I.bare
 .have e:b=it:=by simpa using hb
  subst e;exact⟨h1,hL,h2,h3⟩
 .obtain⟨o,es,ep,ho,r⟩:=hm;exact⟨o,es,ep,k _ o (Ne.symm hL) ho,r⟩
 .refine(I.hok b u e).stay (λc v hc q=>k c v ?_ q) (λ_ q=>q) λ_ _ q=>q;rcases hc with z|z
  .rw[z];exact j' b u e
  .exact j' c _ z
def Inv.tok(I:Inv X aa σ H s)(t:Nat):Inv X aa σ H { s with toks:=t }:=I.un (h':=s.heap) (t':=t) Un.refl I.hok
def Inv.kept{t':Nat}(I:Inv X aa σ H s)(k:∀b u,s.heap.get? b=some u->h'.get? b=some u):Inv X aa σ H { s with heap:=h',toks:=t' }:=I.un (Un.kept k) (I.hok.kept k)
def Inv.laid{a:Addr}{o:HO}{t':Nat}(I:Inv X aa σ H s)(k:∀b u,s.heap.get? b=some u->h'.get? b=some u)(hp:s.heap.objs.size<=a)(new:eZ X.prog X.w (upd H a o) h' a o) :
  Inv X aa σ (upd H a o) { s with heap:=h',toks:=t' }:=I.un (Un.laid k hp (I.hok.fresh hp)) (I.hok.laid k hp new)
def Inv.write{x e:Addr}{o:HO}{t':Nat}(I:Inv X aa σ H s)(mu:Mut (H x))(he:e=x\/H e=some (.own x))(k:∀b u,b≠e->s.heap.get? b=some u->h'.get? b=some u)(i8:∃u,h'.get? e=some u)
 (new:eZ X.prog X.w (upd H x o) h' x o):Inv X aa σ (upd H x o) { s with heap:=h',toks:=t' }:=I.un (Un.write mu he k i8) (I.hok.write mu he k i8 new)
def Inv.pins_of{dq:Γ}(I:Inv X aa σ H s)(h:∀p∈dq,s.heap.get? p.1=some p.2/\H p.1=none/\p.1≠X.env.locals/\p.1∉X.fs/\∀v,p.2.data≠.cell v):Inv X dq σ H s :=
 ⟨I.ok,I.os,I.bare,I.base,I.loc,I.cell,I.free,I.freeC,λp hp=>(Y1.mp hp).elim (λz=>I.pin p (U1 _ z)) (h p),I.hok,I.len⟩
def Kf{N:Θ}(hN:N.Nodup){j:Nat}(a:N[i]?=some x)(b:N[j]?=some x):i=j:=by
 obtain⟨h1,e1⟩:=ao.mp a;obtain⟨h2,e2⟩:=ao.mp b;exact(List.getElem_inj hN).mp (e1.trans e2.symm)
abbrev qi(X:Cx)(a:Str):Prop:=X.fn a=true\/X.env.scope.names.lookup a=some .local
def ZF(I:Inv X aa σ H s)(hN:X.N.Nodup)(hi:X.N[i]?=some x)(hx:Loc X.env.scope x)(r:z4 v u)
 (h:∀s',Inv X aa (σ.set i (some v)) H s'->(∃a,Heap.SameBut a s.heap s'.heap/\(a=X.env.locals\/X.env.cells.lookup x=some a))->Q () s')(hf:qi X x):wpAny M A (storeName X.env x u) Q E s:=by
 obtain⟨m,hn,hl⟩:=id I.loc;have fF:(X.env.scope.kind == .class || (X.env.scope.kind == .module&&X.env.locals != X.env.globals))=false:=by rw[I.ok.kind];rfl
 have k7:i<σ.length:=by rw[I.len];exact(ao.mp hi).1
 have cne:=I.cne;have d6:∀{a:Addr}{h':Heap},(∃o,s.heap.get? a=some o/\H a=none)->Heap.SameBut a s.heap h'->HOk X.prog X.w H h':=λ{a h'}ha hs b ob e=>by
  obtain⟨_,_,cb⟩:=ha;refine(I.hok b ob e).stay (λc w' hc q=>(hs.2 c ?_).trans q) (λ_ q=>q) λ_ _ q=>q;rintro rfl;rcases hc with rfl|hc
  .rw[cb]at e;cases e
  .rw[cb]at hc;cases hc
 rcases hx with hk|hk
 .refine wpAny_storeName_local hk hn (λh' nV hs=>?_) fF;obtain⟨oL,_,_,hoL,_⟩:=id hn;refine h _ ⟨I.ok,I.os,I.bare,⟨λb o e n hb hx=>?_,λb o e n hb hx=>?_,I.base.free,λb o e hx=>?_,I.base.tups,I.base.frzs,I.base.tbls⟩,⟨_,nV,λj y v' e1 e2 e3=>?_⟩,λy c e=>?_,I.free,I.freeC,λp hp=>?_,d6 ⟨oL,hoL,I.free⟩ hs,by simpa using I.len⟩ ⟨_,hs,.inl rfl⟩
  .exact(hs.2 b (aQ (aR (aK e) I.ok.above))).trans (I.base.keep b o e n hb hx)
  .obtain⟨sl,e1⟩:=I.base.slot b o e n hb hx;exact⟨sl,(hs.2 b (aQ (aR (aK e) I.ok.above))).trans e1⟩
  .obtain⟨o',e1⟩:=I.base.there b o e hx;exact⟨o',(hs.2 b (aQ (aR (aK e) I.ok.above))).trans e1⟩
  .by_cases hj:j=i
   .subst hj;rw[hi]at e1;cases e1;rw[UU k7]at e2;cases e2;exact⟨u,r,.inl ⟨hk,by simp⟩⟩
   .rw[VQ (Ne.symm hj)]at e2;obtain⟨u',r',q⟩:=hl j y v' e1 e2 e3;refine⟨u',r',?_⟩;rcases q with⟨k,e⟩|⟨k,c,e,z⟩
    .refine .inl ⟨k,?_⟩;have:y≠x:=λe=>hj (Kf hN e1 (e ▸ hi));simp[this,e]
    .exact .inr ⟨k,c,e,z.sameBut hs (cne y c e)⟩
  .obtain⟨w',z⟩:=I.cell y c e;exact⟨w',z.sameBut hs (cne y c e)⟩
  .obtain⟨e,n,ne,nf,d⟩:=I.pin p hp;exact⟨(hs.2 p.1 ne).trans e,n,ne,nf,d⟩
 .have kB:X.fn x=true:=by
   rcases hf with z|z
   .exact z
   .rw[z]at hk;cases hk
  obtain⟨c,hc⟩:=I.ok.has x (.inl hk);obtain⟨w',z⟩:=I.cell x c hc;refine wpAny_storeName_cell I.ok.kind hk hc z (λh' dk hs=>?_);obtain⟨oc,hoc,nK⟩:=id z;refine h { s with heap:=h' } ⟨I.ok,I.os,I.bare,⟨λb o e n hb hx=>?_,λb o e n hb hx=>?_,I.base.free,λb o e hx=>?_,I.base.tups,I.base.frzs,I.base.tbls⟩,⟨m,hn.sameBut hs (Ne.symm (cne x c hc)),λj y v' e1 e2 e3=>?_⟩,λy c' e=>?_,I.free,I.freeC,λp hp=>?_,d6 ⟨oc,hoc,I.freeC x c hc⟩ hs,by simpa using I.len⟩ ⟨c,hs,.inr hc⟩
  .exact(hs.2 b (aQ (aR (aK e) (I.ok.cab x c kB hc)))).trans (I.base.keep b o e n hb hx)
  .obtain⟨sl,e1⟩:=I.base.slot b o e n hb hx;exact⟨sl,(hs.2 b (aQ (aR (aK e) (I.ok.cab x c kB hc)))).trans e1⟩
  .obtain⟨o',e1⟩:=I.base.there b o e hx;exact⟨o',(hs.2 b (aQ (aR (aK e) (I.ok.cab x c kB hc)))).trans e1⟩
  .by_cases hj:j=i
   .subst hj;rw[hi]at e1;cases e1;rw[UU k7]at e2;cases e2;exact⟨u,r,.inr ⟨.inl hk,c,hc,dk⟩⟩
   .rw[VQ (Ne.symm hj)]at e2;obtain⟨u',r',q⟩:=hl j y v' e1 e2 e3;refine⟨u',r',?_⟩;rcases q with q|⟨k,c',e,z'⟩
    .exact .inl q
    .refine .inr ⟨k,c',e,z'.sameBut hs ?_⟩;rintro rfl;exact hj (Kf hN e1 (I.ok.inj _ _ _ e hc ▸ hi))
  .by_cases k9:c'=c
   .subst k9;exact⟨_,dk⟩
   .obtain⟨w2,z2⟩:=I.cell y c' e;exact⟨w2,z2.sameBut hs k9⟩
  .obtain⟨e,n,ne,nf,d⟩:=I.pin p hp;refine⟨(hs.2 p.1 ?_).trans e,n,ne,nf,d⟩;intro q;rw[q,hoc]at e;have q':oc=p.2:=Option.some.inj e;exact d w' (by rwa[<- q'])
def t_(I:Inv X aa σ H s)(hN:X.N.Nodup)(hi:X.N[i]?=some x)(hx:Loc X.env.scope x)(r:z4 v u)
 (h:∀s',Inv X aa (σ.set i (some v)) H s'->Q () s')(hf:qi X x:=by first|exact .inl rfl|exact .inr rfl|assumption):wpAny M A (storeName X.env x u) Q E s :=
 ZF I hN hi hx r (λs' I' _=>h s' I') hf
def Inv.call'(I:Inv X aa σ H s)(ho:s'.os=s.os)(u:Un (frs X.stack) ch H H' s.heap s'.heap)(hok:HOk X.prog X.w H' s'.heap)(hg:AllBare s'.gens)
 (gh:∀b∈ch,(b∈X.ex\/X.s₀.heap.objs.size<=b)/\b≠X.env.locals/\(∀x c,X.env.cells.lookup x=some c->c≠b)/\∀p∈X.pn++aa,p.1≠b):Inv X aa σ H' s':=by
 obtain⟨h',g',d',t',o'⟩:=s';have e:o'=s.os:=ho;subst e;exact I.call (g':=g') (t':=t') (d':=d') u hok hg gh
abbrev XK:=Value->Ω->Hp->Prop
abbrev St:=List xL
abbrev VK:=V->Hp->Prop
abbrev TE:=St->Hp->VK->Prop
abbrev TT:=St->Hp->(Bool->Hp->Prop)->Prop
abbrev TA:=St->Hp->(Ε->Hp->Prop)->Prop
structure Ends where
 nx:St->Hp->Prop
 rt:VK
 bk:St->Hp->Prop:=λ_ _=>False
 ct:St->Hp->Prop:=λ_ _=>False
abbrev TS:=Ends->St->Hp->Prop
def EP(X:Cx)(aa:Γ)(σ:St)(Q:VK)(u:Value)(s':Shared):Prop:=∃v H',Inv X aa σ H' s'/\z4 v u/\Q v H'
def TP(X:Cx)(aa:Γ)(σ:St)(Q:Bool->Hp->Prop)(b:Bool)(s':Shared):Prop:=∃H',Inv X aa σ H' s'/\Q b H'
def AP(X:Cx)(aa:Γ)(σ:St)(Q:Ε->Hp->Prop)(us:Δ)(s':Shared):Prop:=∃vs H',Inv X aa σ H' s'/\z5 vs us/\Q vs H'
def SP(X:Cx)(aa:Γ)(D:Ends)(f:Flow)(s':Shared):Prop :=
 match f with
 |.next=>∃σ' H',Inv X aa σ' H' s'/\D.nx σ' H'
 |.brk=>∃σ' H',Inv X aa σ' H' s'/\D.bk σ' H'
 |.cont=>∃σ' H',Inv X aa σ' H' s'/\D.ct σ' H'
 |.ret u=>∃v σ' H',Inv X aa σ' H' s'/\z4 v u/\D.rt v H'
def PE(X:Cx)(e:Expr)(t:TE):Prop :=
 ∀(aa:Γ)(s:Shared)(σ:St)(H:Hp)(Q:VK),Inv X aa σ H s->t σ H Q->wpAny (model X.prog X.w) X.A (eval e X.env) (EP X aa σ Q) X.xe s
def PT(X:Cx)(e:Expr)(t:TT):Prop :=
 ∀(aa:Γ)(s:Shared)(σ:St)(H:Hp)(Q:Bool->Hp->Prop),Inv X aa σ H s->t σ H Q->wpAny (model X.prog X.w) X.A (isTrue e X.env (eval e X.env)) (TP X aa σ Q) X.xe s
def PW(X:Cx)(e:Expr)(t:TT):Prop :=
 ∀(b5:Sem Value)(aa:Γ)(s:Shared)(σ:St)(H:Hp)(Q:Bool->Hp->Prop),Inv X aa σ H s->t σ H Q->wpAny (model X.prog X.w) X.A (isTrue e X.env b5) (TP X aa σ Q) X.xe s
def PW.pt{X:Cx}{t:TT}(h:PW X e t):PT X e t:=h _
def PA(X:Cx)(es:ze)(t:TA):Prop :=
 ∀(pos:Pos)(aa:Γ)(s:Shared)(σ:St)(H:Hp)(Q:Ε->Hp->Prop),Inv X aa σ H s->t σ H Q->wpAny (model X.prog X.w) X.A (spliced (backTo pos (starEach es X.env))) (AP X aa σ Q) X.xe s
def PS(X:Cx)(st:Stmt)(t:TS):Prop :=
 ∀(aa:Γ)(s:Shared)(σ:St)(H:Hp)(D:Ends),Inv X aa σ H s->t D σ H->wpAny (model X.prog X.w) X.A (exec st X.env) (SP X aa D) X.xe s
def PSs(X:Cx)(st:xB)(t:TS):Prop :=
 ∀(aa:Γ)(s:Shared)(σ:St)(H:Hp)(D:Ends),Inv X aa σ H s->t D σ H->wpAny (model X.prog X.w) X.A (execs st X.env) (SP X aa D) X.xe s
def thn{α:Type}{t:Sem α}{Q Q':α->Shared->Prop}(h:wpAny M A t Q E s)(hQ:∀a s,Q a s->Q' a s):wpAny M A t Q' E s:=wpAny_mono h hQ λ_ _ x=>x
variable{σ:St}{c tg:Expr}{xs ys:Ε}{K:Frag}{pos ay:Pos}{es:ze}{k:Nat}{te:TE}
section
variable{X:Cx}
def aiV(i:Nat):TE:=λσ H Q=>∃v,σ[i]?=some (some v)/\Q v H
def tC(v:V):TE:=λ_ H Q=>Q v H
abbrev qk(a:Str):Prop:=(a==("__debug__":Str))=false
abbrev qf(a:Str):Prop:=(a==("__classdict__":Str))=false
def ag8{pos:Pos}(hN:X.N[i]?=some x)(hv:Vis X.env.scope x)(hd:qk x:=by decide)(aI:qf x:=by decide):PE X (.Name x pos) (aiV i):=by
 intro aa s σ H Q I h;obtain⟨v,e,h⟩:=h;obtain⟨m,hn,hl⟩:=I.loc;obtain⟨u,r,l⟩:=hl i x v hN e hv;have fin:EP X aa σ Q u s:=⟨v,H,I,r,h⟩;rcases l with⟨hk,hm⟩|⟨hk,c,hc,c6⟩
 .exact wpAny_Name (wpAny_loadName_local I.ok.kind hk hn hm fin) hd
 .rcases hk with hk|hk
  .exact wpAny_Name (wpAny_loadName_cell I.ok.kind hk hc c6 fin) hd
  .exact wpAny_Name (wpAny_loadName_free I.ok.kind hk hc c6 fin aI) hd
def aaV{i j pos} : PE X (.Constant (.int i) j pos) (tC (.int i)):=λ_ _ _ H _ I h=>wpAny_Constant_int ⟨.int i,H,I.tok _,⟨_,rfl⟩,h⟩
def anb{b j pos} : PE X (.Constant (.bool b) j pos) (tC (.bl b)):=λ_ _ _ H _ I h=>Constant_bool ⟨.bl b,H,I,rfl,h⟩
def aiN{j pos} : PE X (.Constant .none j pos) (tC .non):=λ_ _ _ H _ I h=>Constant_none ⟨.non,H,I,rfl,h⟩
def Lb{x j pos} : PE X (.Constant (.str x) j pos) (tC (.str x)):=λ_ _ _ H _ I h=>Calls.Constant_str ⟨.str x,H,I.tok _,⟨_,rfl⟩,h⟩
def Gl(X:Cx)(x:Str):Prop:=X.env.kindOf x=some .globalImplicit
def rH{pos:Pos}{Q:Β}(I:Inv X aa σ H s)(hg:Gl X x)(hm:X.mg x=some u)(h:Q u s)
 (hd:qk x:=by decide):wpAny (model X.prog X.w) X.A (eval (.Name x pos) X.env) Q E s :=
 Calls.Name_function_global I.ok.kind hg (Calls.loadGlobal_global (by rw[I.ok.glob];exact I.mod.glob.keeps I.bk) hm h) hd
def Ao{pos:Pos}{Q:Β}(I:Inv X aa σ H s)(hg:Gl X x)(hm:X.mg x=none)(hv:bootBuiltins x=some u)(h:Q u s)
 (hn:x≠"__name__":=by decide)(hd:qk x:=by decide):wpAny (model X.prog X.w) X.A (eval (.Name x pos) X.env) Q E s:=by
 obtain⟨mb,h1,h2⟩:=I.mod.blt;exact Calls.Name_function_global I.ok.kind hg (Calls.loadGlobal_builtin (by rw[I.ok.glob];exact I.mod.glob.keeps I.bk) hm (by rw[I.ok.blt];exact h1.keeps I.bk) ((h2 x hn).trans hv) h) hd
def PN{pos:Pos}(hg:Gl X x)(hm:X.mg x=some u)(r:z4 v u)(hd:qk x:=by decide):PE X (.Name x pos) (tC v) :=
 λ_ _ _ H _ I h=>rH I hg hm ⟨v,H,I,r,h⟩ hd
def afI{pos:Pos}(hg:Gl X x)(hm:X.mg x=none)(hv:bootBuiltins x=some u)(r:z4 v u)(hn:x≠"__name__":=by decide)(hd:qk x:=by decide):PE X (.Name x pos) (tC v) :=
 λ_ _ _ H _ I h=>Ao I hg hm hv ⟨v,H,I,r,h⟩ hn hd
variable{a b:Expr}{ta tb:TE}{pos:Pos}
def PC(X:Cx)(op:CmpOp)(a b:Expr)(t:TE):Prop :=
 ∀(aa:Γ)(s:Shared)(σ:St)(H:Hp)(Q:VK),Inv X aa σ H s->t σ H Q ->
  wpAny (model X.prog X.w) X.A (eval a X.env) (λv s₁=>wpAny (model X.prog X.w) X.A (eval b X.env) (λu s₂=>wpAny (model X.prog X.w) X.A (compareOp op v u) (EP X aa σ Q) X.xe s₂) X.xe s₁) X.xe s
def tB(t:TE):TT:=λσ H Q=>t σ H λx H1=>∃c,x=.bl c/\Q c H1
def acg{op:CmpOp}{t:TE}(h:PC X op a b t)(h1:behindInMarks op b=false:=by rfl):PT X (.Compare a [op] [b] pos) (tB t):=by
 intro aa s σ H Q I hw;refine wpAny_isTrue_Compare1 (thn (h aa s σ H _ I hw) λv s1 h1=>thn h1 λu s2 h2=>thn h2 λc s3 hP=>?_) h1;obtain⟨x,H1,I1,r1,q1⟩:=hP;obtain⟨d,rfl,q⟩:=q1;cases r1;exact wpAny_truthy_bool ⟨H1,I1,q⟩
variable{tA kQ:TT}{rest:ze}
def ao5(t u:TT):TT:=λσ H Q=>t σ H λc H1=>if c=true then u σ H1 Q else Q false H1
def tOr(t u:TT):TT:=λσ H Q=>t σ H λc H1=>if c=true then Q true H1 else u σ H1 Q
def apm(t:TT):TT:=λσ H Q=>t σ H λc H1=>Q (!c) H1
def pw_and1(ha:PT X a tA):PW X (.BoolOp .And [a] pos) tA:=by
 intro wh aa s σ H Q I h;refine isTrue_and (thn (ha aa s σ H Q I h) λc s1 e=>?_);cases c with
 |true=>exact isTrue_and_nil e
 |false=>exact e
def pw_or1(ha:PT X a tA):PW X (.BoolOp .Or [a] pos) tA:=by
 intro wh aa s σ H Q I h;refine isTrue_or (thn (ha aa s σ H Q I h) λc s1 e=>?_);cases c with
 |false=>exact isTrue_or_nil e
 |true=>exact e
def pw_and(ha:PT X a tA)(hb:PW X (.BoolOp .And (b::rest) pos) kQ):PW X (.BoolOp .And (a::b::rest) pos) (ao5 tA kQ):=by
 intro wh aa s σ H Q I h;refine isTrue_and (thn (ha aa s σ H _ I h) λc s1 hP=>?_);obtain⟨H1,I1,q1⟩:=hP;cases c with
 |true=>exact hb wh aa s1 σ H1 Q I1 q1
 |false=>exact⟨H1,I1,q1⟩
def pw_or(ha:PT X a tA)(hb:PW X (.BoolOp .Or (b::rest) pos) kQ):PW X (.BoolOp .Or (a::b::rest) pos) (tOr tA kQ):=by
 intro wh aa s σ H Q I h;refine isTrue_or (thn (ha aa s σ H _ I h) λc s1 hP=>?_);obtain⟨H1,I1,q1⟩:=hP;cases c with
 |true=>exact⟨H1,I1,q1⟩
 |false=>exact hb wh aa s1 σ H1 Q I1 q1
def WM(ha:PT X a tA):PT X (.UnaryOp .Not a pos) (apm tA):=by
 intro aa s σ H Q I h;exact isTrue_not (ha aa s σ H (λc H1=>Q (!c) H1) I h)
def ant(ta tb:TE):TE:=λσ H Q=>ta σ H λx H1=>∃c,x=.bl c/\if c=true then tb σ H1 Q else Q (.bl false) H1
def am4(ta:TE):TE:=λσ H Q=>ta σ H λx H1=>∃c,x=.bl c/\Q (.bl (!c)) H1
def aiM{op}{t:TE}(h:PE X a t):PE X (.BoolOp op [a] pos) t:=λaa s σ H Q I hw=>BoolOp_one (h aa s σ H Q I hw)
def agW(ha:PE X a ta)(hb:PE X (.BoolOp .And (b::rest) pos) tb):PE X (.BoolOp .And (a::b::rest) pos) (ant ta tb):=by
 intro aa s σ H Q I h;refine BoolOp_and (thn (ha aa s σ H _ I h) λv s1 hP=>?_);obtain⟨x,H1,I1,r1,q1⟩:=hP;obtain⟨c,rfl,q1⟩:=q1;cases r1;refine wpAny_truthy_bool ?_;cases c with
 |true=>exact hb aa s1 σ H1 Q I1 q1
 |false=>exact⟨.bl false,H1,I1,rfl,q1⟩
def agT(ha:PE X a ta):PE X (.UnaryOp .Not a pos) (am4 ta):=by
 intro aa s σ H Q I h;refine UnaryOp_ (thn (ha aa s σ H _ I h) λv s1 hP=>?_);obtain⟨x,H1,I1,r1,q1⟩:=hP;obtain⟨c,rfl,q1⟩:=q1;cases r1;exact not_of (wpAny_truthy_bool ⟨.bl (!c),H1,I1,rfl,q1⟩)
def tIf(t:TT)(ta tb:TE):TE:=λσ H Q=>t σ H λc H1=>if c=true then ta σ H1 Q else tb σ H1 Q
def adg(hc:PT X c tA)(ha:PE X a ta)(hb:PE X b tb):PE X (.IfExp c a b pos) (tIf tA ta tb):=by
 intro aa s σ H Q I h;refine wpAny_IfExp (thn (hc aa s σ H _ I h) λd s1 hP=>?_);obtain⟨H1,I1,q1⟩:=hP;cases d with
 |true=>exact ha aa s1 σ H1 Q I1 q1
 |false=>exact hb aa s1 σ H1 Q I1 q1
end
def SqL(K:Frag)(H:Hp)(a:Addr)(xs:Ε):Prop :=
 Rd H a (.lst xs) \/
  ∃(o:Obj)(its:xi)(n:Nat),K.lookup a=some o/\o.cls=.type "list"/\o.dict=none/\o.data=.seq its n/\its.size<=sizeLine/\z5 xs its.toList
def SqT(K:Frag)(H:Hp)(a:Addr)(xs:Ε):Prop :=
 Rd H a (.tup xs) \/
  ∃(o:Obj)(its:xi)(n:Nat),K.lookup a=some o/\o.cls=.type "tuple"/\o.data=.seq its n/\its.size<=sizeLine/\z5 xs its.toList
def aoa:Value->xL
 |.none=>some .non
 |.bool b=>some (.bl b)
 |.int i _=>some (.int i)
 |.str x _=>some (.str x)
 |.bytes b _=>some (.byt b)
 |.float b _=>some (.flt b)
 |.ref a=>some (.ref a)
 |.type n=>some (.ty n)
 |_=>none
def z4.abs{x:V}(r:z4 x u):aoa u=some x:=by
 cases x with
 |non=>cases r;rfl
 |bl _=>cases r;rfl
 |int _=>obtain⟨t,rfl⟩:=r;rfl
 |str _=>obtain⟨t,rfl⟩:=r;rfl
 |byt _=>obtain⟨t,rfl⟩:=r;rfl
 |flt _=>obtain⟨t,rfl⟩:=r;rfl
 |ref _=>cases r;rfl
 |ty _=>cases r;rfl
def z4.inj{x y:V}{u:Value}(r:z4 x u)(q:z4 y u):x=y:=Option.some.inj (r.abs.symm.trans q.abs)
theorem z5.inj:∀{xs ys:Ε}{us:Δ},z5 xs us->z5 ys us->xs=ys
 |_,_,_,.nil,.nil=>rfl
 |_,_,_,.cons r t,.cons r' t'=>by rw[r.inj r',z5.inj t t']
def SqL.of(h:H a=some (.lst xs)):SqL K H a xs:=.inl (.inl h)
def SqT.of(h:H a=some (.tup xs)):SqT K H a xs:=.inl (.inl h)
def Inv.list(I:Inv X aa σ H s)(h:SqL X.K H a xs):∃its:Δ,z5 xs its/\PlainL s.heap a its.toArray/\xs.length<=sizeLine:=by
 rcases h with h|⟨o,its,n,hk,hc,hd,hs,hz,r⟩
 .obtain⟨z,its,n,r,e⟩:=h.ok I.hok;exact⟨its,r,⟨_,n,e,rfl,rfl,rfl⟩,z⟩
 .refine⟨its.toList,r,⟨o,n,I.kIn a o hk,hc,hd,by simpa using hs⟩,?_⟩;have e:=r.length;simp only[Array.length_toList]at e;exact aL (WG e) hz
def Inv.tuple(I:Inv X aa σ H s)(h:SqT X.K H a xs):∃its:Δ,z5 xs its/\IsTup s.heap a its.toArray/\xs.length<=sizeLine:=by
 rcases h with h|⟨o,its,n,hk,hc,hs,hz,r⟩
 .obtain⟨z,its,r,p⟩:=h.ok I.hok;exact⟨its,r,p,z⟩
 .refine⟨its.toList,r,⟨o,I.kIn a o hk,hc,n,by simpa using hs⟩,?_⟩;have e:=r.length;simp only[Array.length_toList]at e;exact aL (WG e) hz
def Inv.list_inj(I:Inv X aa σ H s)(h:SqL X.K H a xs)(h':SqL X.K H a ys):xs=ys:=by
 obtain⟨its,r,⟨o,n,e,_,_,d⟩,_⟩:=I.list h;obtain⟨its',r',⟨o',n',e',_,_,d'⟩,_⟩:=I.list h';rw[e]at e';cases e';rw[d]at d';injection d' with d1 _;have:its=its':=by simpa using ZH Array.toList d1
 subst this;exact r.inj r'
abbrev Cx.wish(X:Cx)(E:Β):Cx:={ X with xe:=E }
abbrev Cx.nox(X:Cx):Cx:=X.wish λ_ _=>False
def Cx.Ok.wish{X:Cx}(ok:X.Ok)(E:Β):(X.wish E).Ok :=
 ⟨ok.mod,ok.kind,ok.glob,ok.blt,ok.above,ok.inj,ok.has,ok.cab,ok.hd,ok.frames,ok.stk,ok.exf,ok.bs,ok.bsz,ok.noex,ok.exfs,ok.funs,ok.frf⟩
def Cx.Ok.unwish{X:Cx}(ok:(X.wish E).Ok):X.Ok :=
 ⟨ok.mod,ok.kind,ok.glob,ok.blt,ok.above,ok.inj,ok.has,ok.cab,ok.hd,ok.frames,ok.stk,ok.exf,ok.bs,ok.bsz,ok.noex,ok.exfs,ok.funs,ok.frf⟩
def Inv.wish(I:Inv X aa σ H s)(E:Β):Inv (X.wish E) aa σ H s:=⟨I.ok.wish E,I.os,I.bare,I.base,I.loc,I.cell,I.free,I.freeC,I.pin,I.hok,I.len⟩
def Inv.unwish(I:Inv (X.wish E) aa σ H s):Inv X aa σ H s:=⟨I.ok.unwish,I.os,I.bare,I.base,I.loc,I.cell,I.free,I.freeC,I.pin,I.hok,I.len⟩
def SP.unwish{D:Ends}{f:Flow}{s':Shared}(h:SP (X.wish E) aa D f s'):SP X aa D f s':=by
 cases f with
 |next=>obtain⟨σ',H',I,q⟩:=h;exact⟨σ',H',I.unwish,q⟩
 |brk=>obtain⟨σ',H',I,q⟩:=h;exact⟨σ',H',I.unwish,q⟩
 |cont=>obtain⟨σ',H',I,q⟩:=h;exact⟨σ',H',I.unwish,q⟩
 |ret u=>obtain⟨v,σ',H',I,r,q⟩:=h;exact⟨v,σ',H',I.unwish,r,q⟩
def PSs.nox{st:xB}{t:TS}(h:PSs X.nox st t):PSs X st t:=λaa s σ H D I hw =>
 wpAny_mono (h aa s σ H D (I.wish _) hw) (λ_ _ q=>q.unwish) λ_ _ z=>False.elim z
section
variable{X:Cx}{st:Stmt}{rest:xB}{t u:TS}{e:Expr}{te:TE}{pos:Pos}
def akc:TS:=λD σ H=>D.nx σ H
def aeS(t u:TS):TS:=λD σ H=>t { D with nx:=u D } σ H
def Pr:PSs X [] akc:=λ_ _ σ H _ I h=>wpAny_execs_nil ⟨σ,H,I,h⟩
def wJ(h1:PS X st t)(h2:PSs X rest u):PSs X (st::rest) (aeS t u):=by
 intro aa s σ H D I h;refine wpAny_execs_cons (thn (h1 aa s σ H { D with nx:=u D } I h) λf s1 q=>?_);cases f with
 |next =>
  obtain⟨σ',H',I',q⟩:=q;exact h2 aa s1 σ' H' D I' q
 |ret v=>exact q
 |brk=>exact q
 |cont=>exact q
def uE(h1:PS X st t):PSs X [st] t:=by
 intro aa s σ H D I h;refine wpAny_execs_cons (thn (h1 aa s σ H D I h) λf s1 q=>?_);cases f with
 |next=>exact wpAny_execs_nil q
 |ret v=>exact q
 |brk=>exact q
 |cont=>exact q
def Inv.quiet(I:Inv X aa σ H s):interactive X.env=false:=by simp[interactive,I.ok.kind]
def ajQ(te:TE):TS:=λD σ H=>te σ H λ_ H1=>D.nx σ H1
def k_(he:PE X e te)(hs:swapsWith e none pos.line X.env=pure false:=by rfl):PS X (.Expr e pos) (ajQ te):=by
 intro aa s σ H D I h;exact wpAny_Expr_any (thn (he aa s σ H _ I h) λv s1 hP=>by obtain⟨x,H1,I1,r1,q1⟩:=hP;exact⟨σ,H1,I1,q1⟩) I.quiet hs
def ao4(te:TE):TS:=λD σ H=>te σ H D.rt
def O8(he:PE X e te):PS X (.Return (some e) pos) (ao4 te):=by
 intro aa s σ H D I h;exact wpAny_Return_some (thn (he aa s σ H _ I h) λv s1 hP=>by obtain⟨x,H1,I1,r1,q1⟩:=hP;exact⟨x,σ,H1,I1,r1,q1⟩)
def aoo(c:TT)(t u:TS):TS:=λD σ H=>c σ H λb H1=>if b=true then t D σ H1 else u D σ H1
def acF{a b:xB}{tc:TT}(hc:PT X c tc)(ha:PSs X a t)(hb:PSs X b u):PS X (.If c a b pos) (aoo tc t u):=by
 intro aa s σ H D I h;refine wpAny_If (thn (hc aa s σ H _ I h) λd s1 hP=>?_);obtain⟨H1,I1,q1⟩:=hP;cases d with
 |true=>exact ha aa s1 σ H1 D I1 q1
 |false=>exact hb aa s1 σ H1 D I1 q1
def agO:TS:=λ_ _ _=>False
def abW:PS X st agO:=λ_ _ _ _ _ _ h=>h.elim
end
abbrev TG:=V->St->Hp->(St->Hp->Prop)->Prop
abbrev TGs:=Ε->St->Hp->(St->Hp->Prop)->Prop
def PG(X:Cx)(h9:Expr)(t:TG):Prop :=
 ∀(aa:Γ)(s:Shared)(σ:St)(H:Hp)(v:V)(u:Value)(Q:St->Hp->Prop),Inv X aa σ H s->z4 v u->t v σ H Q ->
  wpAny (model X.prog X.w) X.A (assign h9 X.env u) (λ_ s'=>∃σ' H',Inv X aa σ' H' s'/\Q σ' H') X.xe s
def PGs(X:Cx)(ts:ze)(t:TGs):Prop :=
 ∀(aa:Γ)(s:Shared)(σ:St)(H:Hp)(vs:Ε)(us:Δ)(Q:St->Hp->Prop),Inv X aa σ H s->z5 vs us->t vs σ H Q ->
  wpAny (model X.prog X.w) X.A (assignInOrder ((assignEach ts X.env).map (·.2)) us) (λ_ s'=>∃σ' H',Inv X aa σ' H' s'/\Q σ' H') X.xe s
abbrev aiZ:=V->V->V->Hp->(Hp->Prop)->Prop
def ajw(X:Cx)(t:aiZ):Prop :=
 ∀(aa:Γ)(s:Shared)(σ:St)(H:Hp)(o i v:V)(ov iv u:Value)(Q:Hp->Prop),Inv X aa σ H s->z4 o ov->z4 i iv->z4 v u->t o i v H Q ->
  wpAny (model X.prog X.w) X.A (setItem ov iv u) (λ_ s'=>∃H',Inv X aa σ H' s'/\Q H') X.xe s
abbrev TIp:=V->V->Hp->VK->Prop
def PIp(X:Cx)(op:Operator)(t:TIp):Prop :=
 ∀(aa:Γ)(s:Shared)(σ:St)(H:Hp)(x y:V)(v u:Value)(Q:VK),Inv X aa σ H s->z4 x v->z4 y u->t x y H Q ->
  wpAny (model X.prog X.w) X.A (inplaceOp op v u) (EP X aa σ Q) X.xe s
def Ab(i:Nat):TG:=λv σ H Q=>Q (σ.set i (some v)) H
def jU(hN:X.N.Nodup)(hi:X.N[i]?=some x)(hx:Loc X.env.scope x)(hf:qi X x:=by first|exact .inl rfl|exact .inr rfl|assumption):PG X (.Name x pos) (Ab i):=by
 intro aa s σ H v u Q I r h;exact wpAny_assign_Name (t_ I hN hi hx r (λs' I'=>⟨_,H,I',h⟩) hf)
def aoC:TGs:=λvs σ H Q=>vs=[]/\Q σ H
def alW(t:TG)(u:TGs):TGs:=λvs σ H Q=>∃v r,vs=v::r/\t v σ H λσ' H'=>u r σ' H' Q
def aem:PGs X [] aoC:=by
 intro aa s σ H vs us Q I r h;obtain⟨e,h⟩:=h;subst e;cases r;exact assignInOrder_nil ⟨σ,H,I,h⟩
def ade{t:TG}{u:TGs}(h1:PG X e t)(h2:PGs X es u)
 (hs:(assignEach (e::es) X.env).map (·.2)=assign e X.env::(assignEach es X.env).map (·.2):=by rfl):PGs X (e::es) (alW t u):=by
 intro aa s σ H vs us Q I r h;obtain⟨v,vr,e1,h⟩:=h;subst e1;cases r with
 |cons r rr =>
  rw[hs];refine assignInOrder_cons (thn (h1 aa s σ H _ _ _ I r h) λ_ s1 hP=>?_);obtain⟨σ1,H1,I1,q1⟩:=hP;exact h2 aa s1 σ1 H1 _ _ Q I1 rr q1
def aoY(K:Frag)(n:Nat)(t:TGs):TG:=λv σ H Q=>∃a xs,v=.ref a/\SqT K H a xs/\xs.length=n/\t xs σ H Q
abbrev zg(X:Cx)(a:ze):Prop:=(assignEach a X.env).findIdx? (·.1)=none
def ag9{t:TGs}{n:Nat}(hc:X.calm=true)(h:PGs X es t)
 (hn:(assignEach es X.env).length=n:=by rfl)(bu:zg X es:=by rfl):PG X (.Tuple es k pos) (aoY X.K n t):=by
 intro aa s σ H v u Q I r hw;obtain⟨a,xs,e1,hq,hl,hw⟩:=hw;subst e1;cases r;obtain⟨its,rv,ht,hz⟩:=I.tuple hq;refine assign_Tuple_tuple (I.ok.hd hc) ht (by simp[hn,<- hl,rv.length]) bu λh' hx=>?_;have I1:Inv X aa σ H { s with heap:=h' }:=I.kept (t':=s.toks) λb o e=>hx b o (aQ (aK e)) e;exact h aa _ σ H xs _ Q I1 (by simpa using rv) hw
def aom(to ti:TE)(t:aiZ):TG:=λv σ H Q=>to σ H λo H1=>ti σ H1 λi H2=>t o i v H2 λH3=>Q σ H3
def aa2{o i:Expr}{to ti:TE}{t:aiZ}(ho:PE X o to)(hi:PE X i ti)(hs:ajw X t)
 (ha:∀v,assign (.Subscript o i pos) X.env v=(do
   let ov <- holding [v] (eval o X.env)
   let iv <- holding [v,ov] (eval i X.env)
   standAt pos
   holding [v,ov,iv] (setItem ov iv v)
   release [v,ov,iv] []):=by intro _;rfl):PG X (.Subscript o i pos) (aom to ti t):=by
 intro aa s σ H v u Q I r h;rw[ha];refine ZU (wpAny_holding (thn (ho aa s σ H _ I h) λov s1 hP=>?_));obtain⟨x,H1,I1,r1,q1⟩:=hP;refine ZU (wpAny_holding (thn (hi aa s1 σ H1 _ I1 q1) λiv s2 hP=>?_));obtain⟨y,H2,I2,r2,q2⟩:=hP;refine ZU (wpAny_standAt (ZU (wpAny_holding (thn (hs aa s2 σ H2 x y v ov iv u _ I2 r1 r2 r q2) λ_ s3 hP=>?_))));obtain⟨H3,I3,q3⟩:=hP;exact wpAny_release ⟨σ,H3,I3,q3⟩
def afn(te:TE)(g:TG):TS:=λD σ H=>te σ H λx H1=>g x σ H1 D.nx
def XD{g:TG}(he:PE X e te)(hg:PG X tg g)(hs:swapsWithSole [tg] e pos.line X.env=pure false:=by rfl)(hw:swappedStores [tg] e X.env=pure none:=by rfl)
 (h1:(assignEach [tg] X.env).map (·.2)=[assign tg X.env]:=by rfl):PS X (.Assign [tg] e pos) (afn te g):=by
 intro aa s σ H D I h;refine wpAny_Assign_stores (thn (he aa s σ H _ I h) λv s1 hP=>?_) hs hw;obtain⟨x,H1,I1,r1,q1⟩:=hP;rw[h1];exact thn (hg aa s1 σ H1 x v _ I1 r1 q1) λ_ s2 q=>q
def Em(hN:X.N.Nodup)(hi:X.N[i]?=some x)(hx:Loc X.env.scope x)(he:PE X e te)(hs:swapsWith e (some (.Name x ay)) pos.line X.env=pure false:=by rfl)(hf:qi X x:=by first|exact .inl rfl|exact .inr rfl|assumption) :
  PS X (.Assign [.Name x ay] e pos) (afn te (Ab i)):=by
 intro aa s σ H D I h;refine wpAny_Assign_Name (thn (he aa s σ H _ I h) λv s1 hP=>?_) hs;obtain⟨y,H1,I1,r1,q1⟩:=hP;exact t_ I1 hN hi hx r1 (λs2 I2=>⟨_,H1,I2,q1⟩) hf
def aos(i j:Nat)(ta:TA):TS:=λD σ H=>ta σ H λvs H1=>∃v w,vs=[v,w]/\D.nx ((σ.set i (some v)).set j (some w)) H1
variable{a:Expr}{ta:TA}{op:Operator}{bv:xB}{p:Pos}{fp:Φ}
def ahS{j:Nat}{y:Str}{b:Expr}{px py pt:Pos}{kt k2 pt2}(hc:X.calm=true)(hN:X.N.Nodup)(hi:X.N[i]?=some x)(hj:X.N[j]?=some y)(i7:i≠j)
 (hx:X.env.scope.names.lookup x=some .local)(hy:X.env.scope.names.lookup y=some .local)(ha:PA X [a,b] ta)
 (hw:swappedStores [.Tuple [.Name x px,.Name y py] kt pt] (.Tuple [a,b] k2 pt2) X.env=pure (some [x,y]))
 (hs:swapsWithSole [.Tuple [.Name x px,.Name y py] kt pt] (.Tuple [a,b] k2 pt2) pos.line X.env=pure false:=by rfl) :
  PS X (.Assign [.Tuple [.Name x px,.Name y py] kt pt] (.Tuple [a,b] k2 pt2) pos) (aos i j ta):=by
 intro aa s σ H D I h;rw[exec_Assign_arm];refine ZU (wpAny_standAt ?_);rw[hs];refine ZU (ZT ?_);rw[ZZ wp];refine ZU (Tuple_ (thn (ha _ aa s σ H _ I h) λus s1 hP=>?_));obtain⟨vs,H1,I1,r1,q1⟩:=hP;obtain⟨v,w,e1,q1⟩:=q1;subst e1;obtain⟨u1,u2,rfl,rv,fe⟩ : ∃u1 u2,us=[u1,u2]/\z4 v u1/\z4 w u2:=by
  cases r1 with
  |cons p q =>
   cases q with
   |cons p' q' =>
    cases q';exact⟨_,_,rfl,p,p'⟩
 refine wpAny_newObj_type ?_ (by show 2<=sizeLine;decide);have I2:Inv X aa σ H1 { s1 with heap:=s1.heap.push { cls:=.type "tuple",data:=.seq [u1,u2].toArray } }:=I1.kept (t':=s1.toks) λb o e=>aH _ e;rw[hw];refine ZU (ZT ?_);show wpAny (model X.prog X.w) X.A (do rule "assign.swapped-stores"; let items <- unpackItems (.ref s1.heap.objs.size) 2 none;assignInOrder [λv=>bindName X.env y v,λv=>bindName X.env x v] items.reverse;pure Flow.next) _ _ _;refine ZU (wpAny_rule (ZU (unpackItems_tuple (items:=#[u1,u2]) (I.ok.hd hc) (IsTup.new s1.heap _) λh' hx'=>?_)));have I3:=I2.kept (h':=h') (t':=s1.toks) λb o e=>hx' b o (aQ (aK e)) e;show wpAny _ _ (assignInOrder [λv=>bindName X.env y v,λv=>bindName X.env x v] [u2,u1] >>= λ_=>pure Flow.next) _ _ _;refine ZU (assignInOrder_cons (wpAny_bindName (t_ I3 hN hj (.inl hy) fe (λs2 I4=>?_) (.inr hy))));refine assignInOrder_cons (wpAny_bindName (t_ I4 hN hi (.inl hx) rv (λs3 I5=>assignInOrder_nil (ZT ?_)) (.inr hx)));rw[List.set_comm _ _ (Ne.symm i7)]at I5;exact⟨_,H1,I5,q1⟩
def aoK(i:Nat)(te:TE)(ti:TIp):TS:=λD σ H=>∃x,σ[i]?=some (some x)/\te σ H λy H1=>ti x y H1 λz H2=>D.nx (σ.set i (some z)) H2
def ahq{ti:TIp}(hN:X.N.Nodup)(hi:X.N[i]?=some x)(hx:Loc X.env.scope x)(he:PE X e te)(ho:PIp X op ti)(hf:qi X x:=by first|exact .inl rfl|exact .inr rfl|assumption) :
  PS X (.AugAssign (.Name x ay) op e pos) (aoK i te ti):=by
 intro aa s σ H D I h;obtain⟨v,e1,h⟩:=h;obtain⟨m,hn,hl⟩:=I.loc;have vis:Vis X.env.scope x:=by rcases hx with k|k;exact .inl k;exact .inr (.inl k)
 obtain⟨u,r,l⟩:=hl i x v hi e1 vis;refine wpAny_AugAssign_Name ?_;have go:wpAny (model X.prog X.w) X.A (eval e X.env) (λw s₂=>wpAny (model X.prog X.w) X.A (inplaceOp op u w) (λr s₃=>wpAny (model X.prog X.w) X.A (storeName X.env x r) (λ_=>SP X aa D .next) X.xe s₃) X.xe s₂) X.xe s:=by
  refine thn (he aa s σ H _ I h) λw s1 hP=>?_;obtain⟨y,H1,I1,r1,q1⟩:=hP;refine thn (ho aa s1 σ H1 v y u w _ I1 r r1 q1) λz s2 hP=>?_;obtain⟨zv,H2,I2,r2,q2⟩:=hP;exact t_ I2 hN hi hx r2 (λs3 I3=>⟨_,H2,I3,q2⟩) hf
 rcases l with⟨hk,hm⟩|⟨hk,c,hc,c6⟩
 .exact wpAny_loadName_local I.ok.kind hk hn hm go
 .rcases hk with hk|hk
  .exact wpAny_loadName_cell I.ok.kind hk hc c6 go
  .rcases hx with k|k
   .have:X.env.scope.names.lookup x=some .free:=hk;rw[k]at this;cases this
   .have:X.env.scope.names.lookup x=some .free:=hk;rw[k]at this;cases this
def ipI(f:Int->Int->Int):TIp:=λx y H Q=>∃i j,x=.int i/\y=.int j/\Q (.int (f i j)) H
def adh:PIp X .Add (ipI λi j=>i+j):=by
 intro aa s σ H x y v u Q I r1 r2 h;obtain⟨i,j,e1,e2,q⟩:=h;subst e1;subst e2;obtain⟨t,rfl⟩:=r1;obtain⟨t',rfl⟩:=r2;exact iadd_int ⟨.int _,H,I.tok _,⟨_,rfl⟩,q⟩
def ag4(c:TT)(tb:TS):TS:=λD σ H=>∃W:Nat->St->Hp->Prop,(∃m,W m σ H)/\∀m σ H,W m σ H ->
 c σ H λb H1=>if b=true then ∃N:St->Hp->Prop,(∀σ' H',N σ' H'->∃m',m'<m/\W m' σ' H')/\tb { D with nx:=N,ct:=N,bk:=D.nx } σ H1 else D.nx σ H1
def abw{tc:TT}{tb:TS}(hp:PassesOwn (model X.prog X.w) X.A X.env X.xe)(hc:PT X c tc)(hb:PSs X bv tb):PS X (.While c bv [] pos) (ag4 tc tb):=by
 intro aa s σ H D I h;obtain⟨W,⟨m0,w0⟩,turn⟩:=h;refine wpAny_While (codeAny_whileLoop (λn s'=>∃σ' H',Inv X aa σ' H' s'/\W n σ' H') ?_ m0 ⟨σ,H,I,w0⟩);rintro n s1 ⟨σ1,H1,I1,w1⟩;refine wpAny_passesOwn hp (thn (hc aa s1 σ1 H1 _ I1 (turn n σ1 H1 w1)) λb s2 hP=>?_);obtain⟨H2,I2,q2⟩:=hP;cases b with
 |true =>
  obtain⟨N,hN,q2⟩:=q2;rw[ZY rfl];refine wpAny_passesOwn hp (thn (hb aa s2 σ1 H2 _ I2 q2) λf s3 q3=>?_);cases f with
  |next =>
   obtain⟨σ3,H3,I3,n3⟩:=q3;obtain⟨m',hm,w3⟩:=hN σ3 H3 n3;exact⟨m',hm,σ3,H3,I3,w3⟩
  |cont =>
   obtain⟨σ3,H3,I3,n3⟩:=q3;obtain⟨m',hm,w3⟩:=hN σ3 H3 n3;exact⟨m',hm,σ3,H3,I3,w3⟩
  |brk=>exact q3
  |ret v=>exact q3
 |false =>
  rw[ZZ bh];exact wpAny_execs_nil ⟨σ1,H2,I2,q2⟩
structure It where
 go:Nat->Hp->Prop
 yld:Nat->Hp->V->Hp->Prop
 stop:Nat->Hp->Prop
def G6(X:Cx)(aa:Γ)(H:Hp)(b:Addr):Prop :=
 H b=none/\b≠X.env.locals/\b∉X.fs/\(b∈X.ex\/X.s₀.heap.objs.size<=b)/\(∀x c,X.env.cells.lookup x=some c->c≠b)/\∀p∈X.pn++aa,p.1≠b
def Inv.fpOk{X:Cx}(I:Inv X aa σ H s)(hb:s.heap.objs.size<=b)(hn:H' b=none):G6 X aa H' b:=by
 refine⟨hn,VV (aR I.lt hb),I.nofs hb,.inr (aL I.sz hb),λx c e z=>?_,λp hp z=>?_⟩
 .obtain⟨v,q⟩:=I.cell x c e;exact absurd (aR q.lt (by rwa[z])) (X2 _)
 .exact absurd (aR (aK (I.pin p hp).1) (by rwa[z])) (X2 _)
structure Turn(P:Program)(w:World)(K:Frag)(tg:Expr)(J:It)(fp:Φ)(it:Addr)(tn:Nat->Heap->Prop):Prop where
 mem:it∈fp
 obj:∀i h,tn i h->∀b∈fp,∃o,h.get? b=some o/\∀v,o.data≠.cell v
 keep:∀i h h',tn i h->(∀b∈fp,∀o,h.get? b=some o->h'.get? b=some o)->tn i h'
 item:∀(X:Cx),X.prog=P->X.w=w->X.K=K->X.calm=true->∀(i:Nat)(aa:Γ)(s:Shared)(σ:St)(H:Hp)(E:Β),Inv X aa σ H s->(∀b∈fp,G6 X aa H b)->tn i s.heap->J.go i H ->
  wpAny (model P w) X.A (pyNext (.ref it)) (λr s1=>∃u,r=some u /\
   wpAny (model P w) X.A (letOwnedTupleGo tg (.ref it) u) (λ_ s2=>∃x H',Inv X aa σ H' s2/\z4 x u/\J.yld i H x H'/\tn (i+1) s2.heap/\∀b∈fp,H' b=none) E s1) E s
 done:∀(X:Cx),X.prog=P->X.w=w->X.K=K->X.calm=true->∀(i:Nat)(aa:Γ)(s:Shared)(σ:St)(H:Hp)(E:Β),Inv X aa σ H s->(∀b∈fp,G6 X aa H b)->tn i s.heap->J.stop i H ->
  wpAny (model P w) X.A (pyNext (.ref it)) (λr s1=>r=none/\Inv X aa σ H s1) E s
 self:∀(A:Around)(i:Nat)(s:Shared)(Q:Β)(E:Β),tn i s.heap->Q (.ref it) s->wpAny (model P w) A (pyIter (.ref it)) Q E s
abbrev TI:=St->Hp->(It->Hp->Prop)->Prop
def PIE(X:Cx)(aa:Γ)(σ:St)(tg:Expr)(R:It->Hp->Prop)(mM:Value)(s2:Shared):Prop :=
 ∃(it:Addr)(fp:Φ)(tn:Nat->Heap->Prop)(J:It)(H':Hp),mM=.ref it/\Inv X aa σ H' s2/\Turn X.prog X.w X.K tg J fp it tn/\tn 0 s2.heap/\(∀b∈fp,G6 X aa H' b)/\R J H'
def PI(X:Cx)(tg iter:Expr)(wi:TI):Prop :=
 ∀(aa:Γ)(s:Shared)(σ:St)(H:Hp)(R:It->Hp->Prop),Inv X aa σ H s->wi σ H R ->
  wpAny (model X.prog X.w) X.A (eval iter X.env) (λv s1=>wpAny (model X.prog X.w) X.A (pyIter v) (PIE X aa σ tg R) X.xe s1) X.xe s
def YJ{it:Addr}{n:String}{vs:xi}(ho:s.heap.get? it=some o)(hc:o.cls=.type n)(hd:o.data=.fields vs)
   (hn : ["enumerate","zip","dict_itemiterator","dict_reverseitemiterator","odict_iterator","itertools.zip_longest","itertools.pairwise"].contains n=false)(hQ:Q () s):wpAny M A (letOwnedTupleGo tg (.ref it) u) Q E s:=by
  unfold letOwnedTupleGo;cases tg<;>first
    |exact ZT hQ
    |(cases u<;>first
        |exact ZT hQ
        | (refine ZU (wpAny_load ho ?_)
           rw[hc,hd];show wpAny M A (if(["enumerate","zip","dict_itemiterator","dict_reverseitemiterator","odict_iterator","itertools.zip_longest","itertools.pairwise"].contains n&&vs[0]?==some (rawInt _))=true then _ else _) Q E s;rw[ZZ (by intro h;rw[hn,Bool.false_and]at h;cases h)];exact ZT hQ))
def Itl(K:Frag)(a:Addr):It :=
 ⟨λi H=>∃xs x,SqL K H a xs/\xs[i]?=some x,λi H x H'=>H'=H/\∀xs,SqL K H a xs->xs[i]?=some x,λi H=>∃xs,SqL K H a xs/\xs.length<=i⟩
def Itr(lo:Int)(n:Nat):It:=⟨λi _=>i<n,λi H x H'=>H'=H/\x=.int (lo+i),λi _=>n<=i⟩
def Z5(a it:Addr):Turn P w K tg (Itl K a) [it] it (λi h=>h.IsListIter it a i) where
 mem:=by simp
 obj:=λi h st b hb=>by
  have e:b=it:=by simpa using hb
  subst e;obtain⟨o,e,c,d⟩:=st;exact⟨o,e,λv z=>by rw[d]at z;cases z⟩
 keep:=λi h h' st k=>st.at λo e=>k it wr o e
 item:=by
  intro X hP hw hK hc i aa s σ H E I hf st hg;subst hP hw hK;obtain⟨xs,x,hq,hx⟩:=hg;obtain⟨its,rv,p,hz⟩:=I.list hq;obtain⟨u,hu,ru⟩:=rv.get hx;obtain⟨f0,f1,f2,f3,f4,f5⟩:=hf it wr;refine wpAny_pyNext_list_item st p.isList (x:=u) (by simpa using hu) λh' dP sb=>?_;have I1:Inv X aa σ H { s with heap:=h' }:=I.turned (t':=s.toks) (λb o hb e=>(sb.2 b hb).trans e) f0 f1 f3 f4 f5;obtain⟨o,e,c,d⟩:=id dP;exact⟨u,rfl,YJ (s:={ s with heap:=h' }) e c d wp ⟨x,H,I1,ru,⟨rfl,λys hy=>by rwa[I.list_inj hy hq]⟩,dP,λb hb=>(hf b hb).1⟩⟩
 done:=by
  intro X hP hw hK hc i aa s σ H E I hf st hg;subst hP hw hK;obtain⟨xs,hq,hx⟩:=hg;obtain⟨its,rv,p,hz⟩:=I.list hq;obtain⟨f0,f1,f2,f3,f4,f5⟩:=hf it wr;have hl:=rv.length;exact wpAny_pyNext_list_end (I.ok.hd hc) st p.isList (by simp;lia) λh' eb=>⟨rfl,I.turned (t':=s.toks) (λb o hb e=>eb b o hb e) f0 f1 f3 f4 f5⟩
 self:=λ_ _ _ _ _ st h=>wpAny_pyIter_listiter st h
def Wm(it:Addr)(lo:Int)(n:Nat):Turn P w K tg (Itr lo n) [it] it (λi h=>IsRangeIter h it (lo+(i:Nat)*1) ((n:Int)-(i:Nat)) 1) where
 mem:=by simp
 obj:=λi h st b hb=>by
  have e:b=it:=by simpa using hb
  subst e;exact⟨_,st,λv z=>by
   have z':Data.fields _=Data.cell v:=z;cases z'⟩
 keep:=λi h h' st k=>k it wr _ st
 item:=by
  intro X hP hw hK hc i aa s σ H E I hf st hg;subst hP hw hK;obtain⟨f0,f1,f2,f3,f4,f5⟩:=hf it wr;have W:=Walks.range (prog:=X.prog) (w:=X.w) (I.ok.hd hc) it lo 1 n;refine W.item i s _ _ hg st λv h' tk hv dP kk=>?_;obtain⟨t,rfl⟩:=hv;have I1:Inv X aa σ H { s with heap:=h',toks:=tk }:=I.turned (λb o hb e=>kk b o (by simpa using hb) e) f0 f1 f3 f4 f5;refine⟨_,rfl,YJ (s:={ s with heap:=h',toks:=tk }) (n:="range_iterator") dP rfl rfl wp ⟨.int (lo+i),H,I1,⟨t,?_⟩,⟨rfl,rfl⟩,dP,λb hb=>(hf b hb).1⟩⟩;rw[Int.mul_one]
 done:=by
  intro X hP hw hK hc i aa s σ H E I hf st hg;subst hP hw hK;obtain⟨f0,f1,f2,f3,f4,f5⟩:=hf it wr;exact wpAny_pyNext_range_end (I.ok.hd hc) st (by have:n<=i:=hg;lia) λh' eb=>⟨rfl,I.turned (t':=s.toks) (λb o hb e=>eb b o hb e) f0 f1 f3 f4 f5⟩
 self:=λ_ _ _ _ _ st h=>wpAny_pyIter_rangeiter st h
def ajM(K:Frag)(tl:TE):TI:=λσ H R=>tl σ H λx H1=>∃a,x=.ref a/\(∃xs,SqL K H1 a xs)/\R (Itl K a) H1
def aeY{l:Expr}{tl:TE}(hl:PE X l tl):PI X tg l (ajM X.K tl):=by
 intro aa s σ H R I h;refine thn (hl aa s σ H _ I h) λv s1 hP=>?_;obtain⟨x,H1,I1,r1,q1⟩:=hP;obtain⟨a,e,⟨xs,hq⟩,q⟩:=q1;subst e;cases r1;obtain⟨its,rv,p,hz⟩:=I1.list hq;refine wpAny_pyIter_list p.isList ?_;refine⟨s1.heap.objs.size,[s1.heap.objs.size],_,_,H1,rfl,I1.kept (t':=s1.toks) λb o e=>aH _ e,Z5 a _,⟨_,aW _ rfl,rfl,rfl⟩,λb hb=>?_,q⟩;have e:b=s1.heap.objs.size:=by simpa using hb
 subst e;exact I1.fpOk (aG _) (I1.hok.fresh (aG _))
def SM{R:It->Hp->Prop}{lo hi:Int}{t u v:Tok}{tk:Nat}(I:Inv X aa σ H s)(h1 : -(2^62)<=lo)(h2:lo<2^62)(h3 : -(2^62)<=hi)(h4:hi<2^62)
 (q:R (Itr lo (hi-lo).toNat) H):wpAny (model X.prog X.w) X.A (pyIter (.ref s.heap.objs.size)) (PIE X aa σ tg R) E { s with heap:=s.heap.push { cls:=.type "range",data:=.fields #[.int lo t,.int hi u,.int 1 v] },toks:=tk }:=by
 refine wpAny_pyIter_range (IsRange.new ..) (small_one h1 h2 h3 h4) ?_;have I1:Inv X aa σ H { s with heap:=s.heap.push { cls:=.type "range",data:=.fields #[.int lo t,.int hi u,.int 1 v] },toks:=tk }:=I.kept λb o e=>aH _ e;refine⟨(s.heap.push { cls:=.type "range",data:=.fields #[.int lo t,.int hi u,.int 1 v] }).objs.size,[(s.heap.push { cls:=.type "range",data:=.fields #[.int lo t,.int hi u,.int 1 v] }).objs.size],_,_,H,rfl,
  I1.kept (t':=tk) λb o e=>aH _ e,Wm _ lo (hi-lo).toNat,?_,λb hb=>?_,q⟩
 .have e1:lo+((0:Nat):Int)*1=lo:=by simp
  have e2:(((hi-lo).toNat:Nat):Int)-((0:Nat):Int)=Builtin.Range.rangeSize lo hi 1:=by rw[rangeSize_one];split<;>lia
  show IsRangeIter _ _ (lo+((0:Nat):Int)*1) ((((hi-lo).toNat:Nat):Int)-((0:Nat):Int)) 1;rw[e1,e2];exact aW _ rfl
 .have e:b=(s.heap.push { cls:=.type "range",data:=.fields #[.int lo t,.int hi u,.int 1 v] }).objs.size:=by simpa using hb
  subst e;exact I1.fpOk (aG _) (I1.hok.fresh (aG _))
def amU(ta:TA):TI:=λσ H R=>ta σ H λvs H1=>∃j:Int,vs=[.int j]/\-(2^62)<=j/\j<2^62/\R (Itr 0 j.toNat) H1
def ak3(ta:TA):TI:=λσ H R=>ta σ H λvs H1=>∃i j:Int,vs=[.int i,.int j]/\(-(2^62)<=i/\i<2^62/\-(2^62)<=j/\j<2^62)/\R (Itr i (j-i).toNat) H1
def Zu(hg:Gl X "range")(hm:X.mg "range"=none)(ha:PA X [a] ta)(hs:starEach [a] X.env=[(false,eval a X.env)]:=by rfl):PI X tg (.Call (.Name "range" p) [a] [] pos) (amU ta):=by
 intro aa s σ H R I h;refine Call_ (Ao I hg hm boot_range (PyProof.Rows.callWith_type1 (thn (ha pos aa s σ H _ I h) λus s1 hP=>?_) hs rfl));obtain⟨vs,H1,I1,r1,q1⟩:=hP;obtain⟨j,e,q1,q2,q⟩:=q1;subst e;cases r1 with
 |cons r rr =>
  cases rr;obtain⟨t,rfl⟩:=r;exact call_range_1 (SM I1 (XY wp) (T2 wp) q1 q2 (by simpa using q))
def Zi{b:Expr}(hg:Gl X "range")(hm:X.mg "range"=none)(ha:PA X [a,b] ta)(hs:starEach [a,b] X.env=[(false,eval a X.env),(false,eval b X.env)]:=by rfl)(eJ:starEach [b] X.env=[(false,eval b X.env)]:=by rfl) :
  PI X tg (.Call (.Name "range" p) [a,b] [] pos) (ak3 ta):=by
 intro aa s σ H R I h;refine Call_ (Ao I hg hm boot_range (PyProof.Rows.callWith_type1 (thn (ha pos aa s σ H _ I h) λus s1 hP=>?_) (by rw[hs,eJ]) (by rw[eJ];rfl)));obtain⟨vs,H1,I1,r1,q1⟩:=hP;obtain⟨i,j,e,⟨q1,q2,q3,q4⟩,q⟩:=q1;subst e;cases r1 with
 |cons r rr =>
  cases rr with
  |cons r' rr =>
   cases rr;obtain⟨t,rfl⟩:=r;obtain⟨t',rfl⟩:=r';exact call_range_2 (SM I1 q1 q2 q3 q4 q)
def apz(wi:TI)(g:TG)(tb:TS):TS:=λD σ H=>wi σ H λJ H1=>∃W:Nat->Nat->St->Hp->Prop,(∃m,W 0 m σ H1)/\∀i m σ H,W i m σ H ->
 (J.stop i H/\D.nx σ H)\/(J.go i H/\∃N:St->Hp->Prop,(∀σ' H',N σ' H'->∃m',m'<m/\W (i+1) m' σ' H')/\∀x H',J.yld i H x H'->g x σ H' λσ2 H2=>tb { D with nx:=N,ct:=N,bk:=D.nx } σ2 H2)
def JG(fp:Φ)(h:Heap):Γ:=fp.filterMap λb=>(h.get? b).map λo=>(b,o)
def qL(hb:b∈fp)(e:h.get? b=some o):(b,o)∈JG fp h:=List.mem_filterMap.mpr ⟨b,hb,by rw[e];rfl⟩
def aaq{p:Addr×Obj}(hp:p∈JG fp h):p.1∈fp/\h.get? p.1=some p.2:=by
 obtain⟨b,hb,e⟩:=List.mem_filterMap.mp hp;cases q:h.get? b with
 |none=>rw[q]at e;cases e
 |some o =>
  rw[q]at e;have e':(b,o)=p:=Option.some.inj e;subst e';exact⟨hb,q⟩
def Inv.pinned(I:Inv X aa σ H s)(hf:∀b∈fp,G6 X aa H b)(ho:∀b∈fp,∃o,s.heap.get? b=some o/\∀v,o.data≠.cell v):Inv X (aa++JG fp s.heap) σ H s :=
 I.pins_of λp hp=>(Y1.mp hp).elim (λz=>I.pin p (aP _ z)) λz=>by
  obtain⟨hb,e⟩:=aaq z;obtain⟨f0,f1,f2,_⟩:=hf p.1 hb;obtain⟨o,e',d⟩:=ho p.1 hb;rw[e]at e';cases e';exact⟨e,f0,f1,f2,d⟩
def Inv.unpinned{pl:Γ}(I:Inv X (aa++pl) σ H s):Inv X aa σ H s:=I.pins_of λp hp=>I.pin p (aP _ (U1 _ hp))
abbrev qV(X:Cx)(a:Expr):Prop:=∀z,foldedSetIterable a X.env z=pure z
def ahZ{iter:Expr}{wi:TI}{g:TG}{tb:TS}(hp:PassesOwn (model X.prog X.w) X.A X.env X.xe)(hc:X.calm=true)(hi:PI X tg iter wi)(hg:PG X tg g)(hb:PSs X bv tb)
 (hs:qV X iter:=by intro _;rfl):PS X (.For tg iter bv [] pos) (apz wi g tb):=by
 intro aa s σ H D I h;refine wpAny_For (thn (hi aa s σ H _ I h) λv s1 h1=>thn h1 λmM s2 h2=>?_) hs;obtain⟨it,fp,tn,J,H2,e,I2,T,fN,f2,W,⟨m0,w0⟩,turn⟩:=h2;subst e

 have ia:∀{H':Hp},(∀b∈fp,H' b=none)->∀b∈fp,G6 X aa H' b:=λhn b hb=>⟨hn b hb,(f2 b hb).2⟩;refine codeAny_forLoop_any (λn s'=>∃i σ' H',Inv X aa σ' H' s'/\tn i s'.heap/\(∀b∈fp,H' b=none)/\W i n σ' H') ?_ m0 ⟨0,σ,H2,I2,fN,λb hb=>(f2 b hb).1,w0⟩;rintro n s3 ⟨i,σ3,H3,I3,iX,fr3,w3⟩;rcases turn i n σ3 H3 w3 with⟨stop,qn⟩|⟨go,N,hN,step⟩
 .refine wpAny_passesOwn hp (thn (T.done X rfl rfl rfl hc i aa s3 σ3 H3 X.xe I3 (ia fr3) iX stop) λr s4 hP=>?_);obtain⟨hr,I4⟩:=hP;subst hr;exact wpAny_execs_nil ⟨σ3,H3,I4,qn⟩
 .refine wpAny_passesOwn hp (thn (T.item X rfl rfl rfl hc i aa s3 σ3 H3 X.xe I3 (ia fr3) iX go) λr s4 hP=>?_);obtain⟨u,hr,h4⟩:=hP;subst hr;refine wpAny_passesOwn hp (thn h4 λ_ s5 hP=>?_);obtain⟨x,H5,I5,r5,y5,l7,fr5⟩:=hP;have I5':=I5.pinned (ia fr5) (T.obj _ _ l7);refine wpAny_passesOwn hp (thn (hg _ s5 σ3 H5 x u _ I5' r5 (step x H5 y5)) λ_ s6 hP=>?_);obtain⟨σ6,H6,I6,q6⟩:=hP;refine wpAny_passesOwn hp (thn (hb _ s6 σ6 H6 _ I6 q6) λf s7 q7=>?_);have again:∀{σ7:St}{H7:Hp},Inv X (aa++JG fp s5.heap) σ7 H7 s7->N σ7 H7->∃m,m<n/\∃i σ' H',Inv X aa σ' H' s7/\tn i s7.heap/\(∀b∈fp,H' b=none)/\W i m σ' H':=λ{σ7 H7}I7 n7=>by
   obtain⟨m',hm,w7⟩:=hN σ7 H7 n7;refine⟨m',hm,i+1,σ7,H7,I7.unpinned,T.keep _ _ _ l7 λb hb o e=>(I7.pin (b,o) (aP _ (aP _ (qL hb e)))).1,λb hb=>?_,w7⟩;obtain⟨o,e,d⟩:=T.obj _ _ l7 b hb;exact(I7.pin (b,o) (aP _ (aP _ (qL hb e)))).2.1
  cases f with
  |next=>obtain⟨σ7,H7,I7,n7⟩:=q7;exact again I7 n7
  |cont=>obtain⟨σ7,H7,I7,n7⟩:=q7;exact again I7 n7
  |brk=>obtain⟨σ7,H7,I7,q7⟩:=q7;exact⟨σ7,H7,I7.unpinned,q7⟩
  |ret v=>obtain⟨x7,σ7,H7,I7,r7,q7⟩:=q7;exact⟨x7,σ7,H7,I7.unpinned,r7,q7⟩
abbrev R2:=V->V->Hp->VK->Prop
def OpR(X:Cx)(f:Value->Value->Sem Value)(r:R2):Prop :=
 ∀(aa:Γ)(s:Shared)(σ:St)(H:Hp)(x y:V)(v u:Value)(Q:VK),Inv X aa σ H s->z4 x v->z4 y u->r x y H Q ->
  wpAny (model X.prog X.w) X.A (f v u) (EP X aa σ Q) X.xe s
def UnR(X:Cx)(f:Value->Sem Value)(r:V->Hp->VK->Prop):Prop :=
 ∀(aa:Γ)(s:Shared)(σ:St)(H:Hp)(x:V)(v:Value)(Q:VK),Inv X aa σ H s->z4 x v->r x H Q ->
  wpAny (model X.prog X.w) X.A (f v) (EP X aa σ Q) X.xe s
def ig(X:Cx)(f:Value)(r:Ε->Hp->VK->Prop):Prop :=
 ∀(aa:Γ)(s:Shared)(σ:St)(H:Hp)(xs:Ε)(us:Δ)(Q:VK),Inv X aa σ H s->z5 xs us->r xs H Q ->
  wpAny (model X.prog X.w) X.A (call f us) (EP X aa σ Q) X.xe s
def apj(X:Cx)(r:V->Hp->(Bool->Hp->Prop)->Prop):Prop :=
 ∀(aa:Γ)(s:Shared)(σ:St)(H:Hp)(x:V)(v:Value)(Q:Bool->Hp->Prop),Inv X aa σ H s->z4 x v->r x H Q ->
  wpAny (model X.prog X.w) X.A (truthy v) (TP X aa σ Q) X.xe s
def tOp(r:R2)(ta tb:TE):TE:=λσ H Q=>ta σ H λx H1=>tb σ H1 λy H2=>r x y H2 Q
def tUn(r:V->Hp->VK->Prop)(ta:TE):TE:=λσ H Q=>ta σ H λx H1=>r x H1 Q
def rI(C:Int->Int->Prop)(g:Int->Int->V):R2:=λx y H Q=>∃i j,x=.int i/\y=.int j/\C i j/\Q (g i j) H
def rI0(g:Int->Int->V):R2:=λx y H Q=>∃i j,x=.int i/\y=.int j/\Q (g i j) H
def rU(g:Int->V):V->Hp->VK->Prop:=λx H Q=>∃i,x=.int i/\Q (g i) H
variable{b:Expr}{ta tb:TE}{f:Value->Value->Sem Value}{r:R2}{v:Value}{g:Int->Int->Int}
def aiW(ha:PE X a ta)(hb:PE X b tb){R:V->V->Hp->Prop}(I:Inv X aa σ H s)
 (h:ta σ H λx H1=>tb σ H1 λy H2=>R x y H2){Q:Β}
 (hf:∀v u s2 x y H2,Inv X aa σ H2 s2->z4 x v->z4 y u->R x y H2->wpAny (model X.prog X.w) X.A (f v u) Q X.xe s2) :
  wpAny (model X.prog X.w) X.A (eval a X.env) (λv s₁=>wpAny (model X.prog X.w) X.A (eval b X.env) (λu s₂=>wpAny (model X.prog X.w) X.A (f v u) Q X.xe s₂) X.xe s₁) X.xe s:=by
 refine thn (ha aa s σ H _ I h) λv s1 hP=>?_;obtain⟨x,H1,I1,r1,q1⟩:=hP;refine thn (hb aa s1 σ H1 _ I1 q1) λu s2 hP=>?_;obtain⟨y,H2,I2,r2,q2⟩:=hP;exact hf v u s2 x y H2 I2 r1 r2 q2
def ajW(ho:OpR X (binaryOp op) r)(ha:PE X a ta)(hb:PE X b tb):PE X (.BinOp a op b pos) (tOp r ta tb):=by
 intro aa s σ H Q I h;exact wpAny_BinOp (aiW ha hb I h λv u s2 x y H2 I2 rx ry q=>ho aa s2 σ H2 x y v u Q I2 rx ry q)
def akq{op:UnaryOp}{r:V->Hp->VK->Prop}(ho:UnR X (unaryOp op) r)(ha:PE X a ta):PE X (.UnaryOp op a pos) (tUn r ta):=by
 intro aa s σ H Q I h;exact UnaryOp_ (thn (ha aa s σ H _ I h) λv s1 hP=>by obtain⟨x,H1,I1,r1,q1⟩:=hP;exact ho aa s1 σ H1 x v Q I1 r1 q1)
def Zy(ho:OpR X (inplaceOp op) r){x y:V}{Q:VK}(I:Inv X aa σ H s)
 (rx:z4 x v)(ry:z4 y u)(q:r x y H Q):wpAny (model X.prog X.w) X.A (inplaceOp op v u) (EP X aa σ Q) X.xe s:=ho aa s σ H x y v u Q I rx ry q
def opI{C:Int->Int->Prop}
 (rule:∀(i j:Int)(t u:Tok)(s:Shared)(Q:Β)(E:Β),C i j->Q (.int (g i j) s.toks) { s with toks:=s.toks+1 }->wpAny (model X.prog X.w) X.A (f (.int i t) (.int j u)) Q E s) :
  OpR X f (rI C λi j=>.int (g i j)):=by
 intro aa s σ H x y v u Q I rx ry h;obtain⟨i,j,rfl,rfl,hc,q⟩:=h;obtain⟨t,rfl⟩:=rx;obtain⟨t',rfl⟩:=ry;exact rule i j t t' s _ _ hc ⟨.int (g i j),H,I.tok _,⟨_,rfl⟩,q⟩
def am8
 (rule:∀(i j:Int)(t u:Tok)(s:Shared)(Q:Β)(E:Β),Q (.int (g i j) s.toks) { s with toks:=s.toks+1 }->wpAny (model X.prog X.w) X.A (f (.int i t) (.int j u)) Q E s) :
  OpR X f (rI0 λi j=>.int (g i j)):=by
 intro aa s σ H x y v u Q I rx ry h;obtain⟨i,j,rfl,rfl,q⟩:=h;obtain⟨t,rfl⟩:=rx;obtain⟨t',rfl⟩:=ry;exact rule i j t t' s _ _ ⟨.int (g i j),H,I.tok _,⟨_,rfl⟩,q⟩
def ae7{g:Int->Int->Bool}
 (rule:∀(i j:Int)(t u:Tok)(s:Shared)(Q:Β)(E:Β),Q (.bool (g i j)) s->wpAny (model X.prog X.w) X.A (f (.int i t) (.int j u)) Q E s) :
  OpR X f (rI0 λi j=>.bl (g i j)):=by
 intro aa s σ H x y v u Q I rx ry h;obtain⟨i,j,rfl,rfl,q⟩:=h;obtain⟨t,rfl⟩:=rx;obtain⟨t',rfl⟩:=ry;exact rule i j t t' s _ _ ⟨.bl (g i j),H,I,rfl,q⟩
def aj9(i j:Int):Prop:=0<=j/\j<=1000000/\i.natAbs<2^64
def ad1(i j:Int):Prop:=(-(2^64)<i/\i<2^64)\/(-(2^64)<j/\j<2^64)
def ad1.ok{i j:Int}(h:ad1 i j):IntMulOk i j:=by
 rcases h with⟨h1,h2⟩|⟨h1,h2⟩
 .exact .of_left (intBits_le_64 h1 h2)
 .exact .of_right (intBits_le_64 h1 h2)
def aik:OpR X (binaryOp .Add) (rI0 λi j=>.int (i+j)):=am8 λ_ _ _ _ _ _ _ q=>add_int q
def agP:OpR X (binaryOp .Sub) (rI0 λi j=>.int (i-j)):=am8 λ_ _ _ _ _ _ _ q=>sub_int q
def agR:OpR X (binaryOp .Mult) (rI ad1 λi j=>.int (i*j)):=opI λ_ _ _ _ _ _ _ hc q=>mul_int q hc.ok
def ai4:OpR X (binaryOp .Mod) (rI (λ_ j=>0<j) λi j=>.int (i%j)):=opI λi j _ _ _ _ _ hc q=>by
 have h1:(0:Int)<j:=hc;exact mod_int' (WU hc) (by rwa[Int.fmod_eq_emod_of_nonneg i (XY hc)])
def aib:OpR X (binaryOp .Pow) (rI aj9 λi j=>.int (i^j.toNat)):=opI λ_ _ _ _ _ _ _ hc q=>pow_int_small hc.1 hc.2.1 hc.2.2 q
def unI{f:Value->Sem Value}{g:Int->Int}
 (rule:∀(i:Int)(t:Tok)(s:Shared)(Q:Β)(E:Β),Q (.int (g i) s.toks) { s with toks:=s.toks+1 }->wpAny (model X.prog X.w) X.A (f (.int i t)) Q E s) :
  UnR X f (rU λi=>.int (g i)):=by
 intro aa s σ H x v Q I rx h;obtain⟨i,rfl,q⟩:=h;obtain⟨t,rfl⟩:=rx;exact rule i t s _ _ ⟨.int (g i),H,I.tok _,⟨_,rfl⟩,q⟩
def ahP:UnR X (unaryOp .USub) (rU λi=>.int (-i)):=unI λ_ _ _ _ _ q=>neg_int q
def abP:V->V->Bool
 |.non,.non=>true|.non,.int _=>true|.int _,.non=>true|.non,.bl _=>true|.bl _,.non=>true|.non,.str _=>true|.str _,.non=>true
 |.int _,.int _=>true|.bl _,.bl _=>true|.str _,.str _=>true|.byt _,.byt _=>true
 |.int _,.str _=>true|.str _,.int _=>true|.bl _,.str _=>true|.str _,.bl _=>true
 |_,_=>false
def rEq:R2:=λx y H Q=>abP x y=true/\Q (.bl (decide (x=y))) H
def rNe:R2:=λx y H Q=>abP x y=true/\Q (.bl (!decide (x=y))) H
def Ze{i j:Int} : decide (V.int i=V.int j)=(i==j):=by
 rw[Bool.eq_iff_iff];simp
def abI{i j:Bool} : decide (V.bl i=V.bl j)=(i==j):=by
 rw[Bool.eq_iff_iff];simp
def X4{i j:Str} : decide (V.str i=V.str j)=(i==j):=by
 rw[Bool.eq_iff_iff];simp
def Yi{i j:Array UInt8} : decide (V.byt i=V.byt j)=(i.toList==j.toList):=by
 rw[Bool.eq_iff_iff];cases i;cases j;simp
def dJ{Q:VK}{k k':Bool}(I:Inv X aa σ H s)(q:Q (.bl k) H)(e:k=k'):EP X aa σ Q (.bool k') s:=by
 subst e;exact⟨.bl k,H,I,rfl,q⟩
def ak8:OpR X (compareOp .Eq) rEq:=by
 intro aa s σ H x y v u Q I rx ry h;obtain⟨hs,q⟩:=h;cases x with
 |non =>
  cases rx;cases y with
  |non=>cases ry;exact PySem.EqNone.eq_none_none (dJ I q wr)
  |bl j=>cases ry;exact PySem.EqNone.eq_none_bool (dJ I q wr)
  |int j=>obtain⟨t',rfl⟩:=ry;exact PySem.EqNone.eq_none_int (dJ I q wr)
  |str j=>obtain⟨t',rfl⟩:=ry;exact PySem.EqNone.eq_none_str (dJ I q wr)
  |_=>exact absurd (show false=true from hs) bh
 |bl i =>
  cases rx;cases y with
  |non=>cases ry;exact PySem.EqNone.eq_bool_none (dJ I q wr)
  |bl j=>cases ry;exact eq_bool (dJ I q abI)
  |str j=>obtain⟨t',rfl⟩:=ry;exact PySem.EqMixed.eq_bool_str (dJ I q wr)
  |_=>exact absurd (show false=true from hs) bh
 |int i =>
  obtain⟨t,rfl⟩:=rx;cases y with
  |non=>cases ry;exact PySem.EqNone.eq_int_none (dJ I q wr)
  |int j=>obtain⟨t',rfl⟩:=ry;exact eq_int (dJ I q Ze)
  |str j=>obtain⟨t',rfl⟩:=ry;exact PySem.EqMixed.eq_int_str (dJ I q wr)
  |_=>exact absurd (show false=true from hs) bh
 |str i =>
  obtain⟨t,rfl⟩:=rx;cases y with
  |non=>cases ry;exact PySem.EqNone.eq_str_none (dJ I q wr)
  |bl j=>cases ry;exact PySem.EqMixed.eq_str_bool (dJ I q wr)
  |int j=>obtain⟨t',rfl⟩:=ry;exact PySem.EqMixed.eq_str_int (dJ I q wr)
  |str j=>obtain⟨t',rfl⟩:=ry;exact eq_str (dJ I q X4)
  |_=>exact absurd (show false=true from hs) bh
 |byt i =>
  obtain⟨t,rfl⟩:=rx;cases y with
  |byt j=>obtain⟨t',rfl⟩:=ry;exact PySem.W.eq_bytes (dJ I q Yi)
  |_=>exact absurd (show false=true from hs) bh
 |_=>cases y<;>exact absurd (show false=true from hs) bh
def anv:OpR X (compareOp .NotEq) rNe:=by
 intro aa s σ H x y v u Q I rx ry h;obtain⟨hs,q⟩:=h;cases x with
 |non =>
  cases rx;cases y with
  |non=>cases ry;exact PySem.EqNone.ne_none_none (dJ I q wr)
  |bl j=>cases ry;exact PySem.EqNone.ne_none_bool (dJ I q wr)
  |int j=>obtain⟨t',rfl⟩:=ry;exact PySem.EqNone.ne_none_int (dJ I q wr)
  |str j=>obtain⟨t',rfl⟩:=ry;exact PySem.EqNone.ne_none_str (dJ I q wr)
  |_=>exact absurd (show false=true from hs) bh
 |bl i =>
  cases rx;cases y with
  |non=>cases ry;exact PySem.EqNone.ne_bool_none (dJ I q wr)
  |bl j=>cases ry;exact ne_bool (dJ I q (ZH not abI))
  |str j=>obtain⟨t',rfl⟩:=ry;exact PySem.EqMixed.ne_bool_str (dJ I q wr)
  |_=>exact absurd (show false=true from hs) bh
 |int i =>
  obtain⟨t,rfl⟩:=rx;cases y with
  |non=>cases ry;exact PySem.EqNone.ne_int_none (dJ I q wr)
  |int j=>obtain⟨t',rfl⟩:=ry;exact ne_int (dJ I q (ZH not Ze))
  |str j=>obtain⟨t',rfl⟩:=ry;exact PySem.EqMixed.ne_int_str (dJ I q wr)
  |_=>exact absurd (show false=true from hs) bh
 |str i =>
  obtain⟨t,rfl⟩:=rx;cases y with
  |non=>cases ry;exact PySem.EqNone.ne_str_none (dJ I q wr)
  |bl j=>cases ry;exact PySem.EqMixed.ne_str_bool (dJ I q wr)
  |int j=>obtain⟨t',rfl⟩:=ry;exact PySem.EqMixed.ne_str_int (dJ I q wr)
  |str j=>obtain⟨t',rfl⟩:=ry;exact ne_str (dJ I q (ZH not X4))
  |_=>exact absurd (show false=true from hs) bh
 |byt i =>
  obtain⟨t,rfl⟩:=rx;cases y with
  |byt j=>obtain⟨t',rfl⟩:=ry;exact PySem.W.ne_bytes (dJ I q (ZH not Yi))
  |_=>exact absurd (show false=true from hs) bh
 |_=>cases y<;>exact absurd (show false=true from hs) bh
def alb:OpR X (compareOp .Lt) (rI0 λi j=>.bl (decide (i<j))):=ae7 λ_ _ _ _ _ _ _ q=>lt_int q
def akX:OpR X (compareOp .LtE) (rI0 λi j=>.bl (decide (i<=j))):=ae7 λ_ _ _ _ _ _ _ q=>le_int q
def anE:OpR X (compareOp .Gt) (rI0 λi j=>.bl (decide (j<i))):=ae7 λ_ _ _ _ _ _ _ q=>gt_int q
def an1:OpR X (compareOp .GtE) (rI0 λi j=>.bl (decide (j<=i))):=ae7 λ_ _ _ _ _ _ _ q=>ge_int q
def ahE:OpR X (compareOp .Is) (λx y H Q=>y=.non/\Q (.bl (decide (x=.non))) H):=by
 intro aa s σ H x y v u Q I rx ry h;obtain⟨rfl,q⟩:=h;cases ry;refine is_none_gen (dJ I q ?_);cases x<;>first
  |(cases rx;rfl)
  |(obtain⟨t,rfl⟩:=rx;rfl)
def afX:OpR X (compareOp .IsNot) (λx y H Q=>y=.non/\Q (.bl (!decide (x=.non))) H):=by
 intro aa s σ H x y v u Q I rx ry h;obtain⟨rfl,q⟩:=h;cases ry;refine isnot_none_gen (dJ I q ?_);cases x<;>first
  |(cases rx;rfl)
  |(obtain⟨t,rfl⟩:=rx;rfl)
variable{op:CmpOp}{tc:TE}{us:Δ}{dx x C f:Addr}{mA:Str->Ψ}{prog:Program}{name:Str}{pl:Sem Bool}{kw:xh}
def acd(b:Expr)(h:op≠.In:=by decide)(h2:op≠.NotIn:=by decide):behindInMarks op b=false:=by
 have e1:(op==CmpOp.In)=false:=by cases op<;>first|rfl|exact absurd rfl h
 have e2:(op==CmpOp.NotIn)=false:=by cases op<;>first|rfl|exact absurd rfl h2
 cases b<;>simp[behindInMarks,e1,e2]
def afY(ho:OpR X (compareOp op) r)(ha:PE X a ta)(hb:PE X b tb)(hm:behindInMarks op b=false):PE X (.Compare a [op] [b] pos) (tOp r ta tb):=by
 intro aa s σ H Q I h;exact wpAny_Compare1 (aiW ha hb I h λv u s2 x y H2 I2 rx ry q=>ho aa s2 σ H2 x y v u Q I2 rx ry q) hm
def agJ(t:TE):TT:=λσ H Q=>t σ H λx H'=>∃k,x=.bl k/\Q k H'
def aeW(ho:OpR X (compareOp op) r)(ha:PE X a ta)(hb:PE X b tb)(hm:behindInMarks op b=false):PT X (.Compare a [op] [b] pos) (agJ (tOp r ta tb)):=by
 intro aa s σ H Q I h;refine wpAny_isTrue_Compare1 (thn (ha aa s σ H _ I h) λv s1 ⟨x,H1,I1,r1,q1⟩=>thn (hb aa s1 σ H1 _ I1 q1) λu s2 ⟨y,H2,I2,r2,q2⟩ =>
  thn (ho aa s2 σ H2 x y v u _ I2 r1 r2 q2) λc s3 ⟨z,H3,I3,r3,k,e,q3⟩=>?_) hm
 subst e;cases r3;exact wpAny_truthy_bool ⟨H3,I3,q3⟩
def Xr(r r':R2)(ta tb tc:TE):TE:=λσ H Q=>ta σ H λx H1=>tb σ H1 λy H2=>r x y H2 λz H3=>∃k,z=.bl k /\
 (if k=true then tc σ H3 λw' H4=>r' y w' H4 Q else Q (.bl false) H3)
def aci{dA:CmpOp}{r':R2}(ho:OpR X (compareOp op) r)(di:OpR X (compareOp dA) r')(ha:PE X a ta)(hb:PE X b tb)(hc:PE X c tc)
 (hm:lastMarks [op,dA] [b,c]=false:=by with_unfolding_all rfl):PE X (.Compare a [op,dA] [b,c] pos) (Xr r r' ta tb tc):=by
 intro aa s σ H Q I h;refine Compare_chain (thn (ha aa s σ H _ I h) λv s1 ⟨x,H1,I1,r1,q1⟩=>chain_link (thn (hb aa s1 σ H1 _ I1 q1) λu s2 ⟨y,H2,I2,r2,q2⟩ =>
  thn (ho aa s2 σ H2 x y v u _ I2 r1 r2 q2) λd s3 ⟨z,H3,I3,r3,k,e,q3⟩=>?_)) hm
 subst e;cases r3;refine wpAny_truthy_bool ?_;cases k with
 |false=>exact ite_ff ⟨.bl false,H3,I3,rfl,q3⟩
 |true=>exact ite_tt (chain_last (thn (hc aa s3 σ H3 _ I3 q3) λw' s4 hP=>by obtain⟨z',H4,I4,r4,q4⟩:=hP;exact di aa s4 σ H4 y z' u w' Q I4 r2 r4 q4))
def abz{dA:CmpOp}{r':R2}(ho:OpR X (compareOp op) r)(di:OpR X (compareOp dA) r')(ha:PE X a ta)(hb:PE X b tb)(hc:PE X c tc)
 (hm:lastMarks [op,dA] [b,c]=false:=by with_unfolding_all rfl):PT X (.Compare a [op,dA] [b,c] pos) (agJ (Xr r r' ta tb tc)):=by
 intro aa s σ H Q I h;refine isTrue_chain (thn (ha aa s σ H _ I h) λv s1 ⟨x,H1,I1,r1,q1⟩=>test_link (thn (hb aa s1 σ H1 _ I1 q1) λu s2 ⟨y,H2,I2,r2,q2⟩ =>
  thn (ho aa s2 σ H2 x y v u _ I2 r1 r2 q2) λd s3 ⟨z,H3,I3,r3,k,e,q3⟩=>?_)) hm
 subst e;cases r3;refine wpAny_truthy_bool ?_;cases k with
 |false =>
  obtain⟨k',e',q'⟩:=q3;cases e';exact ite_ff ⟨H3,I3,q'⟩
 |true =>
  refine ite_tt (test_last (thn (hc aa s3 σ H3 _ I3 q3) λw' s4 ⟨z',H4,I4,r4,q4⟩=>thn (di aa s4 σ H4 y z' u w' _ I4 r2 r4 q4) λd' s5 hP=>?_));obtain⟨z2,H5,I5,r5,k2,e2,q5⟩:=hP;subst e2;cases r5;exact wpAny_truthy_bool ⟨H5,I5,q5⟩
def ahV(K:Frag)(x:V)(H:Hp)(k:Bool):Prop :=
 match x with
 |.non=>k=false
 |.bl b=>k=b
 |.int i=>k=(i != 0)
 |.str y=>y.length<=sizeLine/\k=((y.length:Int) != 0)
 |.byt y=>y.size<=sizeLine/\k=((y.size:Int) != 0)
 |.ref p=>(∃xs,SqL K H p xs/\k = !xs.isEmpty)\/(∃xs,SqT K H p xs/\k = !xs.isEmpty)\/∃kvs,H p=some (.dK kvs)/\k = !kvs.isEmpty
 |_=>False
def W9{κ:Type}{kvs:List (κ×V)}{vs:List (κ×Value)}(r:KV kvs vs):(!vs.isEmpty) = !kvs.isEmpty:=by
 cases r<;>rfl
def Jq{its:Δ}(r:z5 xs its):(!its.toArray.isEmpty) = !xs.isEmpty:=by
 cases r<;>simp
def yC:(sizeLine:Nat)<2^63:=by rw[sizeLine_eq];decide
def acP:apj X (λx H Q=>∃k,ahV X.K x H k/\Q k H):=by
 intro aa s σ H x v Q I rx h;obtain⟨k,e,q⟩:=h;have hl:=yC;have hs:sizeLine=16777216:=sizeLine_eq;cases x with
 |non =>
  cases rx;have e':k=false:=e;subst e';exact truthy_none ⟨H,I,q⟩
 |bl b =>
  cases rx;have e':k=b:=e;subst e';exact wpAny_truthy_bool ⟨H,I,q⟩
 |int i =>
  obtain⟨t,rfl⟩:=rx;have e':k=(i != 0):=e;subst e';exact PySem.P.truthy_int ⟨H,I,q⟩
 |str y =>
  obtain⟨t,rfl⟩:=rx;obtain⟨hy,e'⟩ : y.length<=sizeLine/\k=((y.length:Int) != 0):=e;subst e';exact PySem.P.truthy_str wo ⟨H,I.tok _,q⟩
 |byt y =>
  obtain⟨t,rfl⟩:=rx;obtain⟨hy,e'⟩ : y.size<=sizeLine/\k=((y.size:Int) != 0):=e;subst e';exact PySem.W.truthy_bytes (aL hy wp) ⟨H,I.tok _,q⟩
 |ref p =>
  cases rx;have e':(∃xs,SqL X.K H p xs/\k = !xs.isEmpty)\/(∃xs,SqT X.K H p xs/\k = !xs.isEmpty)\/∃kvs,H p=some (.dK kvs)/\k = !kvs.isEmpty:=e;rcases e' with⟨xs,hx,e'⟩|⟨xs,hx,e'⟩|⟨kvs,hx,e'⟩
  .subst e';obtain⟨its,r,pl,hz⟩:=I.list hx;have be:=r.length;exact wpAny_truthy_list pl.isList (by simp only[aX];lia) ⟨H,I.tok _,by rwa[Jq r]⟩
  .subst e';obtain⟨its,r,pl,hz⟩:=I.tuple hx;have be:=r.length;exact truthy_tuple pl (by simp only[aX];lia) ⟨H,I.tok _,by rwa[Jq r]⟩
  .subst e';obtain⟨hz,hS,vs,r,m⟩ : kvs.length<=sizeLine/\(p==sysModules)=false/\∃vs,KV kvs vs/\s.heap.DictOf (gG X.prog X.w) p vs:=I.hok p _ hx;have be:kvs.length=vs.length:=Paired.length r;exact wpAny_truthy_dict hS m wo ⟨H,I.tok _,by rwa[W9 r]⟩
 |_=>exact(show False from e).elim
def abv(ha:PE X a ta)(he:∀b5,isTrue a X.env b5=(do let v <- b5;standAt a.pos;holding [v] (truthy v))) :
  PT X a (λσ H Q=>ta σ H λx H'=>∃k,ahV X.K x H' k/\Q k H'):=by
 intro aa s σ H Q I h;exact isTrue_plain (thn (ha aa s σ H _ I h) λv s1 hP=>by obtain⟨x,H1,I1,r1,q1⟩:=hP;exact acP aa s1 σ H1 x v Q I1 r1 q1) (he _)
def W8:OpR X (binaryOp .Add) (λx y H Q=>∃i j,x=.str i/\y=.str j/\i.length+j.length<=sizeLine/\Q (.str (i++j)) H):=by
 intro aa s σ H x y v u Q I rx ry h;obtain⟨i,j,rfl,rfl,hz,q⟩:=h;obtain⟨t,rfl⟩:=rx;obtain⟨t',rfl⟩:=ry;exact add_str (λt' tk=>⟨.str (i++j),H,I.tok _,⟨_,rfl⟩,q⟩) hz
def vals1{x:V}(r:z5 [x] us):∃u,us=[u]/\z4 x u:=by
 cases r with
 |cons r1 r2=>cases r2;exact⟨_,rfl,r1⟩
def vals2{x y:V}(r:z5 [x,y] us):∃u w',us=[u,w']/\z4 x u/\z4 y w':=by
 cases r with
 |cons r1 r2 =>
  cases r2 with
  |cons r3 r4=>cases r4;exact⟨_,_,rfl,r1,r3⟩
def abm:ig X (.builtin "abs") (λxs H Q=>∃i,xs=[.int i]/\Q (.int (if i<0 then -i else i)) H):=by
 intro aa s σ H xs us Q I r h;obtain⟨i,rfl,q⟩:=h;obtain⟨u,rfl,t,rfl⟩:=vals1 r;exact call_abs_int λu tk=>⟨.int (if i<0 then -i else i),H,I.tok _,⟨_,rfl⟩,q⟩
def aaI(hc:X.calm=true):ig X (.builtin "min") (λxs H Q=>∃i j,xs=[.int i,.int j]/\Q (.int (if j<i then j else i)) H):=by
 intro aa s σ H xs us Q I r h;obtain⟨i,j,rfl,q⟩:=h;obtain⟨u,w',rfl,⟨t,rfl⟩,⟨t',rfl⟩⟩:=vals2 r;refine min_two_ints (I.ok.hd hc) λh' tk k=>⟨_,H,I.kept k,?_,q⟩;by_cases hj:j<i
 .rw[ZY hj,ZY hj];exact⟨_,rfl⟩
 .rw[ZZ hj,ZZ hj];exact⟨_,rfl⟩
def Zx:ig X (.type "int") (λxs H Q=>(∃i,xs=[.int i]/\Q (.int i) H)\/∃k,xs=[.bl k]/\Q (.int (if k then 1 else 0)) H):=by
 intro aa s σ H xs us Q I r h;rcases h with⟨i,rfl,q⟩|⟨k,rfl,q⟩
 .obtain⟨u,rfl,t,rfl⟩:=vals1 r;exact call_int_int ⟨.int i,H,I,⟨_,rfl⟩,q⟩
 .obtain⟨u,rfl,r1⟩:=vals1 r;cases r1;exact call_int_bool ⟨.int (if k then 1 else 0),H,I.tok _,⟨_,rfl⟩,q⟩
structure Wb(h:Heap)(x dx C:Addr)(mA:Str->Ψ):Prop where
 obj:h.get? x=some (instObj C dx)
 ns:h.Ns1 dx mA
 ne:dx≠x
def Np(n:h.Ns1 dx mA):∃od,h.get? dx=some od/\∀name,lookIn name od=some (mA name):=by
 obtain⟨o,es,ep,ho,hd,hk,_,hm⟩:=n;refine⟨o,ho,λname=>?_⟩;have e:=hm name;unfold nsFind findBy at e;rw[<- Array.find?_toList]at e;unfold lookIn;rw[hd];dsimp only;split
 .rename_i y q
  rw[q]at e;exact ZH some e
 .rename_i q
  rw[q]at e;have a:es.toList.any (·.refKey)=false:=by
   rw[List.any_eq_false];intro y hy;obtain⟨z,t,fx⟩:=hk y (Array.mem_toList_iff.mp hy);simp[DictEntry.refKey,fx]
  have a':¬es.toList.any (·.refKey)=true:=by rw[a];exact bh
  rw[ZZ a'];exact ZH some e
def Wb.look(I:Wb h x dx C mA):∃od,PySem.W.InstAt h x (instObj C dx) C (some od)/\∀name,lookIn name od=some (mA name) :=
 let⟨od,ho,hl⟩:=Np I.ns
 ⟨od,⟨I.obj,rfl,rfl,ho⟩,hl⟩
def get_map{pE:Bool}{Q:Β}(X:K.In s.heap)(I:Wb s.heap x dx C mA)(hg:plainGet K C name=true)(hh:hasDictIn K C=true)
 (ha:findIn K (.ref C) name=some none)(hv:mA name=some v)(m3:handedIn v=true)(h:Q v { s with toks:=s.toks+1 }) :
  wpAny (model prog w) A (getAttr (.ref x) name pE) Q E s:=by
 obtain⟨od,J,hl⟩:=I.look;exact PySem.W.get_value X J (plainGet_of hg).1 (findObj_own hh ha rfl (by rw[hl,hv])) m3 h
def aaN{Q:Value×Δ->Shared->Prop}(X:K.In s.heap)(I:Wb s.heap x dx C mA)(hg:plainGet K C name=true)
 (hf:findIn K (.ref C) name=some (some (.ref f)))(ht:isFn K (.ref f)=true)(hv:mA name=none)(h:Q (.ref f,[.ref x]) s) :
  wpAny (model prog w) A (getMethod (.ref x) name pl) Q E s:=by
 obtain⟨od,J,hl⟩:=I.look;exact PySem.W.method_fn X J (plainGet_of hg).1 (plainGet_of hg).2 hf (beq_iff_eq.mp ht) (by show(lookIn name od).map (·.isSome)=some false;rw[hl,hv];rfl) h
def adT{ns:Θ}(X:K.In s.heap)(I:Wb s.heap x dx C mA)
 (hs:findIn K (.ref C) "__setattr__"=some (some (.builtin "object.__setattr__")))(hp:plainOver K C=true)(ht:takerIn K C name=some none)(hh:hasDictIn K C=true)
 (hw:PySem.Within mA ns)(hsz:ns.length<=sizeLine)
 (h:∀h',Wb h' x dx C (λy=>if y=name then some v else mA y)->Heap.SameBut dx s.heap h'->Q () { s with heap:=h',toks:=s.toks+2 }) :
  wpAny (model prog w) A (setAttr (.ref x) name v) Q E s:=by
 obtain⟨od,J,hl⟩:=I.look;refine set_plain X J hs (PySem.W.osa_open (s:={ s with toks:=s.toks+1 }) (r:=none) X J hp ht λb=>?_);obtain⟨cd,hc,bn⟩:=PySem.W.any_some hh;have hx:s.heap.get? x=some ⟨.ref C,some dx,.plain,#[]⟩:=I.obj;refine ZU (ZT (ZU (ZU (wpAny_loadPart hx (ZU (PySem.W.Looks.here (s:={ s with toks:=s.toks+1 }) (looks_clsIn X hc) ?_))))));rw[bn];refine ZT (a:=some dx) (ZU (ZT (ZU ?_)));refine wpAny_nsSet1 (s:={ s with toks:=s.toks+1 }) I.ns λh' i5 eJ=>?_;obtain⟨oD,esD,epD,nN,oz,dS⟩:=i5.count (PySem.Within.cons name v hw);refine ZU (wpAny_lookBehind nN (by rw[oz];exact pastItsLine_dict (aL dS (by rw[List.length_cons];exact Nat.succ_le_succ hsz))) ?_);exact ZT (h _ ⟨(eJ.2 _ (Ne.symm I.ne)).trans I.obj,i5,I.ne⟩ eJ)
def acI{R:Result->Shared->Prop}{vs:Δ}(X:K.In s.heap)(hm:makesIn K C=true)
 (hi:findIn K (.ref C) "__init__"=some (some (.ref f)))(hf:typeIn K (.ref f)=some (.type "function"))
 (h:codeAny (model prog w) (A.under (.builtin "type.__call__" ⟨.ref C::vs,kw⟩)) (.call (.ref f) ⟨.ref (s.heap.objs.size+1)::vs,kw⟩) (PySem.W.InitBack (s.heap.objs.size+1) R)
   { s with heap:=(s.heap.push emptyDict).push (instObj C s.heap.objs.size) }) :
  codeAny (model prog w) A (.call (.ref C) ⟨vs,kw⟩) R s:=by
 obtain⟨hh,g,d,t,os⟩:=s;exact PySem.W.make_core (PySem.W.makes_of X hm) (looks_findIn X hi) (λself=>PySem.W.bind_fn X self hf) (.inl rfl) h
def vN(f:Str)(v:V):xt->xt
 |[]=>[(f,v)]
 |(g,x)::r=>if g=f then(g,v)::r else(g,x)::vN f v r
theorem Gn(f g:Str)(v:V):∀fs:xt,(vN f v fs).lookup g=if g=f then some v else fs.lookup g
 |[]=>by
  show List.lookup g [(f,v)]=_;by_cases h:g=f
  .have hb:(g==f)=true:=beq_iff_eq.mpr h;simp only[List.lookup,hb,ZY h]
  .have hb:(g==f)=false:=beq_eq_false_iff_ne.mpr h;simp only[List.lookup,hb,ZZ h]
 |(k,x)::r=>by
  have ih:=Gn f g v r;rw[show vN f v ((k,x)::r)=(if k=f then(k,v)::r else(k,x)::vN f v r)from rfl];by_cases hk:k=f
  .rw[ZY hk];by_cases h:g=k
   .have hb:(g==k)=true:=beq_iff_eq.mpr h;simp only[List.lookup,hb,ZY (h.trans hk)]
   .have hb:(g==k)=false:=beq_eq_false_iff_ne.mpr h;simp only[List.lookup,hb,ZZ (λe:g=f=>h (e.trans hk.symm))]
  .rw[ZZ hk];by_cases h:g=k
   .have hb:(g==k)=true:=beq_iff_eq.mpr h;simp only[List.lookup,hb,ZZ (λe:g=f=>hk (h.symm.trans e))]
   .have hb:(g==k)=false:=beq_eq_false_iff_ne.mpr h;simp only[List.lookup,hb];exact ih
theorem Fo(f:Str)(v:V):∀fs:xt,f∈(vN f v fs).map (·.1)/\∀g,g∈fs.map (·.1)->g∈(vN f v fs).map (·.1)
 |[]=>⟨by simp[vN],λg h=>by simp at h⟩
 |(k,x)::r=>by
  obtain⟨i1,i2⟩:=Fo f v r;rw[show vN f v ((k,x)::r)=(if k=f then(k,v)::r else(k,x)::vN f v r)from rfl];by_cases hk:k=f
  .rw[ZY hk];subst hk;exact⟨by simp,λg h=>by simpa using h⟩
  .rw[ZZ hk];refine⟨?_,λg h=>?_⟩
   .rw[List.map_cons];exact aJ _ i1
   .rw[List.map_cons]at h ⊢;rcases YU.mp h with e|e
    .exact YU.mpr (.inl e)
    .exact aJ _ (i2 g e)
theorem Gb(f:Str)(v:V):∀fs:xt,(vN f v fs).length<=fs.length+1
 |[]=>by simp[vN]
 |(k,x)::r=>by
  have ih:=Gb f v r;rw[show vN f v ((k,x)::r)=(if k=f then(k,v)::r else(k,x)::vN f v r)from rfl];by_cases hk:k=f
  .rw[ZY hk,List.length_cons,List.length_cons];exact Xs _
  .rw[ZZ hk,List.length_cons,List.length_cons];exact Nat.succ_le_succ ih
variable{v:V}{a:Addr}{fs:xt}{f m:Str}{b:Bool}
def yt.some_of{o:Ψ}(r:yt (some v) o):∃u,o=some u/\z4 v u:=by
 cases o with
 |none=>exact(show False from r).elim
 |some u=>exact⟨u,rfl,r⟩
def yt.none_of{o:Ψ}(r:yt none o):o=none:=by
 cases o with
 |none=>rfl
 |some u=>exact(show False from r).elim
def NZ(r:z4 v u):handedIn u=true:=by
 cases v with
 |non=>cases(show u=Value.none from r);rfl
 |bl b=>cases(show u=Value.bool b from r);rfl
 |int i=>obtain⟨t,e⟩:=(show ∃t,u=Value.int i t from r);cases e;rfl
 |str x=>obtain⟨t,e⟩:=(show ∃t,u=Value.str x t from r);cases e;rfl
 |byt b=>obtain⟨t,e⟩:=(show ∃t,u=Value.bytes b t from r);cases e;rfl
 |flt b=>obtain⟨t,e⟩:=(show ∃t,u=Value.float b t from r);cases e;rfl
 |ref a=>cases(show u=Value.ref a from r);rfl
 |ty n=>cases(show u=Value.type n from r);rfl
def Hz(hok:HOk P w H h)(e:H a=some (.ins C dx fs)):∃mA,Wb h a dx C mA/\(∀f,yt (fs.lookup f) (mA f))/\PySem.Within mA (fs.map (·.1))/\fs.length<=1000/\H dx=some (.own a):=by
 obtain⟨d,z,ne,ob,mA,n,r,q⟩:=(show eZ P w H h a (.ins C dx fs)from hok a _ e);exact⟨mA,⟨ob,n,ne⟩,r,q,z,d⟩
structure Cls(K:Frag)(C:Addr):Prop where
 pg:plainGet K C Str.empty=true
 hd:hasDictIn K C=true
 po:plainOver K C=true
 sa:findIn K (.ref C) "__setattr__"=some (some (.builtin "object.__setattr__"))
def Cls.get{K:Frag}{C:Addr}(c:Cls K C)(f:Str):plainGet K C f=true:=c.pg
def cg(K:Frag)(C:Addr)(f:Str):Prop:=findIn K (.ref C) f=some none
def cg.taker(n:cg K C f):takerIn K C f=some none:=by
 unfold takerIn;rw[show findIn K (.ref C) f=some none from n]
 rfl
structure Meth(K:Frag)(C:Addr)(m:Str)(f:Addr):Prop where
 at_:findIn K (.ref C) m=some (some (.ref f))
 fn:isFn K (.ref f)=true
 kp:keepIn K (.ref f)=true
def V3{Q:Β}(I:Inv X aa σ H s)(e:H a=some (.ins C dx fs))(c:Cls X.K C)(n:cg X.K C f)(l:fs.lookup f=some v)
 (h:∀u s',Inv X aa σ H s'->z4 v u->Q u s'):wpAny (model X.prog X.w) A (getAttr (.ref a) f b) Q E s:=by
 obtain⟨mA,O,r,_,_,_⟩:=Hz I.hok e;obtain⟨u,hu,ru⟩:=yt.some_of (v:=v) (o:=mA f) (by rw[<- l];exact r f);exact get_map I.kIn O (c.get f) c.hd n hu (NZ ru) (h u _ (I.tok _) ru)
def Bo{g:Addr}{Q:Value×Δ->Shared->Prop}(I:Inv X aa σ H s)(e:H a=some (.ins C dx fs))(c:Cls X.K C)(k:Meth X.K C m g)(l:fs.lookup m=none)
 (h:Q (.ref g,[.ref a]) s):wpAny (model X.prog X.w) A (getMethod (.ref a) m pl) Q E s:=by
 obtain⟨mA,O,r,_,_,_⟩:=Hz I.hok e;have hn:mA m=none:=yt.none_of (by rw[<- l];exact r m);exact aaN I.kIn O (c.get m) k.at_ k.fn hn h
def Wz{y:V}(I:Inv X aa σ H s)(e:H a=some (.ins C dx fs))(c:Cls X.K C)(n:cg X.K C f)(hl:fs.length<1000)(ry:z4 y u)
 (h:∀s',Inv X aa σ (upd H a (.ins C dx (vN f y fs))) s'->Q () s'):wpAny (model X.prog X.w) A (setAttr (.ref a) f u) Q E s:=by
 obtain⟨mA,O,r,wi,_,ho⟩:=Hz I.hok e;have hz:(fs.map (·.1)).length<=sizeLine:=by rw[ak,sizeLine_eq];exact aL (Y2 hl) wp
 refine adT I.kIn O c.sa c.po n.taker c.hd wi hz λh' O' sb=>h _ ?_;have hd:∃o,h'.get? dx=some o:=by obtain⟨o,_,_,e',_⟩:=O'.ns;exact⟨o,e'⟩
 refine I.write (x:=a) (e:=dx) (by rw[e];exact True.intro) (.inr ho) (λb q hb z=>(sb.2 b hb).trans z) hd ?_;refine⟨by rw[bU O.ne];exact ho,?_,O.ne,O'.obj,_,O'.ns,λg=>?_,λg hg=>?_⟩
 .have:=Gb f y fs;lia
 .show yt ((vN f y fs).lookup g) (if g=f then some u else mA g);rw[Gn];by_cases q:g=f
  .rw[ZY q,ZY q];exact ry
  .rw[ZZ q,ZZ q];exact r g
 .by_cases q:g=f
  .rw[q];exact(Fo f y fs).1
  .refine(Fo f y fs).2 g (wi g λz=>hg ?_);show(if g=f then some u else mA g)=none;rw[ZZ q];exact z
def Inv.made(I:Inv X aa σ H s):Inv X aa σ (upd (upd H s.heap.objs.size (.own (s.heap.objs.size+1))) (s.heap.objs.size+1) (.ins C s.heap.objs.size []))
  { s with heap:=(s.heap.push emptyDict).push (instObj C s.heap.objs.size) }:=by
 have e1:(s.heap.push emptyDict).get? s.heap.objs.size=some emptyDict:=aW s.heap rfl;have e2:((s.heap.push emptyDict).push (instObj C s.heap.objs.size)).get? (s.heap.objs.size+1)=some (instObj C s.heap.objs.size):=by
  have:=aW (s.heap.push emptyDict) (o:=instObj C s.heap.objs.size) rfl;rwa[Heap.size_push]at this
 have e3:(s.heap.push emptyDict).Ns s.heap.objs.size (λ_=>none):=⟨emptyDict,#[],_,e1,rfl,(λe he=>absurd he wr),λ_=>rfl⟩;have I1:=I.laid (a:=s.heap.objs.size) (o:=.own (s.heap.objs.size+1)) (h':=s.heap.push emptyDict) (t':=s.toks) (λb u q=>aH _ q) (aG _) ⟨_,e1⟩;refine I1.laid (a:=s.heap.objs.size+1) (o:=.ins C s.heap.objs.size []) (t':=s.toks) (λb u q=>aH _ q) (WG (Heap.size_push _ _)) ?_;have ne:s.heap.objs.size≠s.heap.objs.size+1:=aQ (X0 _);refine⟨by rw[bU ne,bW],aZ _,ne,e2,λ_=>none,(Heap.Ns1.of_empty e3).at λo q=>aH _ q,λ_=>True.intro,λy hy=>absurd rfl hy⟩
variable{Q:Β}{o ar:Expr}{tv:TE}{c:Value}{t:TA}
def Yl{env:Env}(hb:attributeBase e f env (eval e env)=eval e env)
 (h:wpAny (model prog w) A (eval e env) (λo s₁=>wpAny (model prog w) A (getAttr o f true) Q E s₁) E s):wpAny (model prog w) A (eval (.Attribute e f pos) env) Q E s :=
 Attribute_any_ h (by rw[arm_eval_Attribute,hb])
def aoc(K:Frag)(ta:TE)(f:Str):TE:=λσ H Q=>ta σ H λx H1=>∃a C dx fs v,x=.ref a/\H1 a=some (.ins C dx fs)/\Cls K C/\cg K C f/\fs.lookup f=some v/\Q v H1
def aoV(K:Frag)(ta tv:TE)(f:Str):TS:=λD σ H=>tv σ H λy H1=>ta σ H1 λx H2=>∃a C dx fs,x=.ref a/\H2 a=some (.ins C dx fs)/\Cls K C/\cg K C f/\fs.length<1000 /\
 D.nx σ (upd H2 a (.ins C dx (vN f y fs)))
abbrev qB(X:Cx)(a:Expr)(b:Str):Prop:=attributeBase a b X.env (eval a X.env)=eval a X.env
def abE(he:PE X e ta)(hb:qB X e f):PE X (.Attribute e f pos) (aoc X.K ta f):=by
 intro aa s σ H Q I h;refine Yl hb (thn (he aa s σ H _ I h) λu s1 h=>?_);obtain⟨x,H1,I1,rx,a,C,dx,fs,v,rfl,ea,c,n,l,q⟩:=h;obtain rfl:u=Value.ref a:=rx;exact V3 I1 ea c n l λu' s2 I2 ru=>⟨v,H1,I2,ru,q⟩
def ait(ha:PE X o ta)(hv:PE X ar tv)(hs:swapsWith ar (some (.Attribute o f ay)) pos.line X.env=pure false):PS X (.Assign [.Attribute o f ay] ar pos) (aoV X.K ta tv f):=by
 intro aa s σ H D I h;refine plainObj_wpAny_Assign_Attribute (thn (hv aa s σ H _ I h) λu s1 ⟨y,H1,I1,ry,q⟩=>thn (ha aa s1 σ H1 _ I1 q) λov s2 h=>?_) hs;obtain⟨x,H2,I2,rx,a,C,dx,fs,rfl,ea,c,n,l,q2⟩:=h;obtain rfl:ov=Value.ref a:=rx;exact Wz I2 ea c n l ry λs3 I3=>⟨σ,_,I3,q2⟩
inductive Ed(K:Frag)(H:Hp):V->Value->Prop where
 |non:Ed K H .non (.type "NoneType")
 |bl (x:Bool):Ed K H (.bl x) (.type "bool")
 |int (i:Int):Ed K H (.int i) (.type "int")
 |str (x:Str):Ed K H (.str x) (.type "str")
 |flt (x:UInt64):Ed K H (.flt x) (.type "float")
 |lst {a:Addr}{xs:Ε} (e:H a=some (.lst xs)):Ed K H (.ref a) (.type "list")
 |frz {a:Addr}{o:Obj}{xs:Ε} (e:H a=some (.frz o (.lst xs))):Ed K H (.ref a) (.type "list")
 |tup {a:Addr}{xs:Ε} (e:H a=some (.tup xs)):Ed K H (.ref a) (.type "tuple")
 |dK {a:Addr}{kvs:xF} (e:H a=some (.dK kvs)):Ed K H (.ref a) (.type "dict")
 |ins {a C dx:Addr}{fs:xt} (e:H a=some (.ins C dx fs)) (cl:Cls K C) (ha:findIn K (.ref C) "__class__"=some (some (.builtin "object.__class__")))
   (hn:specialIn K (.builtin "object.__class__") "__get__"=some (some (.builtin "getset_descriptor.__get__"))) (htk:PySem.W.takesIn K (.builtin "object.__class__")=some true)
   (hm:mroIn K C (.type "object")=some true):Ed K H (.ref a) (.ref C)
def aat{x:V}{t:Value}(I:Inv X aa σ H s)(rx:z4 x u)(ty:Ed X.K H x t)(e:kitOne X.K t c=some b)(h:∀tk,Q (.bool b) { s with toks:=tk }) :
  wpAny (model X.prog X.w) A (call (.builtin "isinstance") [u,c]) Q E s:=by
 cases ty with
 |non=>cases(show u=Value.none from rx);exact kia_one PySem.W.kitx_none I.kIn True.intro e (λz=>nomatch z) h
 |bl y=>cases(show u=Value.bool y from rx);exact kia_one PySem.W.kitx_bool I.kIn True.intro e (λz=>nomatch z) h
 |int i=>obtain⟨t,q⟩:=(show ∃t,u=Value.int i t from rx);cases q;exact kia_one PySem.W.kitx_int I.kIn True.intro e (λz=>nomatch z) h
 |str y=>obtain⟨t,q⟩:=(show ∃t,u=Value.str y t from rx);cases q;exact kia_one PySem.W.kitx_str I.kIn True.intro e (λz=>nomatch z) h
 |flt y=>obtain⟨t,q⟩:=(show ∃t,u=Value.float y t from rx);cases q;exact kia_one PySem.W.kitx_float I.kIn True.intro e (λz=>nomatch z) h
 |@lst a xs ea =>
  cases(show u=Value.ref a from rx);obtain⟨_,_,n,_,h1⟩:=(show eZ X.prog X.w H s.heap a (.lst xs)from I.hok a _ ea);exact kia_one kitx_list I.kIn ⟨_,h1,rfl⟩ e (λz=>nomatch z) h
 |@frz a ob xs ea =>
  cases(show u=Value.ref a from rx);obtain⟨_,_,_,n,_,h1⟩:=(show eZ X.prog X.w H s.heap a (.frz ob (.lst xs))from I.hok a _ ea);exact kia_one kitx_list I.kIn ⟨_,h1,rfl⟩ e (λz=>nomatch z) h
 |@tup a xs ea =>
  cases(show u=Value.ref a from rx);obtain⟨_,_,_,p⟩:=(show eZ X.prog X.w H s.heap a (.tup xs)from I.hok a _ ea);obtain⟨o,h1,h2,_⟩:=p;exact kia_one kitx_tuple I.kIn ⟨o,h1,h2⟩ e (λz=>nomatch z) h
 |@dK a kvs ea =>
  cases(show u=Value.ref a from rx);obtain⟨_,_,vs,_,p⟩:=(show eZ X.prog X.w H s.heap a (.dK kvs)from I.hok a _ ea);obtain⟨o,es,ep,h1,h2,_⟩:=p;exact kia_one PySem.W.kitx_dict I.kIn ⟨o,h1,h2.1⟩ e (λz=>nomatch z) h
 |@ins a C dx fs ea cl ha hn htk hm =>
  cases(show u=Value.ref a from rx);obtain⟨mA,O,_⟩:=Hz I.hok ea;obtain⟨od,J,_⟩:=O.look;exact kia_one (PySem.W.kitx_own (cl.get _) cl.hd ha hn htk hm) I.kIn J e (λz=>nomatch z) h
structure dH(k:Nat)(A:Around):Prop where
 hd:A.handled=none
 dp:A.depth+3*k+5<recursionLimit
 un:A.units+16*k+200<cLine
def dH.mono{j:Nat}(r:dH k A)(h:j<=k):dH j A:=⟨r.hd,by have:=r.dp;lia,by have:=r.un;lia⟩
def dH.md{n:Nat}(h:dH n A)(e:k<=n:=by decide):dH k A:=h.mono e
def dH.deeper{k:Nat}{A:Around}(r:dH (k+1) A)(env:Env):dH k (A.deeper env) :=
 ⟨r.hd,by have:=r.dp;show A.depth+1+3*k+5<_;lia,by have:=r.un;show A.units+3+16*k+200<_;lia⟩
def Xy : (A.under (.builtin "type.__call__" ⟨.ref C::us,kw⟩)).depth=A.depth+1:=by
 first|rfl|simp[Around.under,Code.weight,Code.isCreation,Code.isGuard,Code.isCaller,Code.frames,Code.isFrame,guardIds]
def Xa : (A.under (.builtin "type.__call__" ⟨.ref C::us,kw⟩)).units=A.units+1:=by
 first|rfl|simp[Around.under,Code.cUnits,Code.frames,Code.isFrame]
def dH.make(r:dH (k+1) A)(C:Addr)(us:Δ)(kw:xh):dH k (A.under (.builtin "type.__call__" ⟨.ref C::us,kw⟩)) :=
 ⟨r.hd,by have:=r.dp;rw[Xy];lia,by have:=r.un;rw[Xa];lia⟩
def dH.depth{k:Nat}{A:Around}(r:dH k A):A.depth<recursionLimit:=by have:=r.dp;lia
def dH.units{k:Nat}{A:Around}(r:dH k A):A.units+64<cLine:=by have:=r.un;lia
def ais:TA:=λ_ H Q=>Q [] H
def akZ(ta:TE)(tr:TA):TA:=λσ H Q=>ta σ H λx H1=>tr σ H1 λxs H2=>Q (x::xs) H2
def jB:PA X [] ais:=λ_ _ _ _ H Q I h=>Calls.spliced_nil ⟨[],H,I,.nil,h⟩
abbrev qo(X:Cx)(a:Expr)(b:ze):Prop:=starEach (a::b) X.env=(false,eval a X.env)::starEach b X.env
def cQ(ha:PE X e te)(hr:PA X es t)(hs:qo X e es:=by rfl):PA X (e::es) (akZ te t):=by
 intro pos aa s σ H Q I h;rw[hs];show wpAny _ _ (spliced ((false,eval e X.env)::backTo pos (starEach es X.env))) _ _ s;refine Calls.spliced_cons (thn (ha aa s σ H _ I h) λu s1 hP=>?_);obtain⟨x,H1,I1,r1,q1⟩:=hP;exact thn (hr pos aa s1 σ H1 _ I1 q1) λus s2 hP=>by obtain⟨xs,H2,I2,r2,q2⟩:=hP;exact⟨x::xs,H2,I2,.cons r1 r2,q2⟩
def apl(t:TA):TE:=λσ H Q=>t σ H λxs H1=>xs.length<=sizeLine/\∀p,H1 p=none->Q (.ref p) (upd H1 p (.tup xs))
def aot(t:TA):TE:=λσ H Q=>t σ H λxs H1=>xs.length<=sizeLine/\∀p,H1 p=none->Q (.ref p) (upd H1 p (.lst xs))
def aix{x1}(h:PA X es t):PE X (.Tuple es x1 pos) (apl t):=by
 intro aa s σ H Q I hq;refine wpAny_Tuple_spliced (thn (h pos aa s σ H _ I hq) λus s1 ⟨xs,H1,I1,r,z,q⟩=>⟨by rw[<- r.length];exact z,?_⟩);have hf:H1 s1.heap.objs.size=none:=I1.hok.fresh (aG _);refine⟨.ref s1.heap.objs.size,upd H1 s1.heap.objs.size (.tup xs),I1.laid (t':=s1.toks) (λb u e=>aH _ e) (aG _) ?_,rfl,q _ hf⟩;exact⟨z,us,r,⟨_,aW _ rfl,rfl,_,rfl⟩⟩
def XH(h:PA X es t):PE X (.List es pos) (aot t):=by
 intro aa s σ H Q I hq;refine wpAny_List_spliced (thn (h pos aa s σ H _ I hq) λus s1 ⟨xs,H1,I1,r,z,q⟩=>⟨by rw[<- r.length];exact z,?_⟩);have hf:H1 s1.heap.objs.size=none:=I1.hok.fresh (aG _);refine⟨.ref s1.heap.objs.size,upd H1 s1.heap.objs.size (.lst xs),I1.laid (t':=s1.toks) (λb u e=>aH _ e) (aG _) ?_,rfl,q _ hf⟩;exact⟨z,us,0,r,aW _ rfl⟩
abbrev Sp:=Ε->Hp->VK->XK->Prop
abbrev CXT:=xl->Hp->Shared->XK->Value->Shared->Prop
structure Va(P:Program)(w:World)(K:Frag)(mg:Str->Ψ)(base:Heap)(A:Around)(outer:xl)(s:Shared)(H:Hp):Prop where
 frames:A.frames=some outer
 mod:Mod K mg base
 bs:∀b o,base.get? b=some o->s.heap.get? b=some o/\H b=none
 bsz:base.objs.size<=s.heap.objs.size
 funs:s.heap.FunFrames base outer
 frf:∀b∈frs outer,H b=none
 hok:HOk P w H s.heap
 bare:AllBare s.gens
def CE(outer:xl)(P:Program)(w:World)(H:Hp)(s:Shared)(Q:VK)(u:Value)(s':Shared):Prop :=
 ∃v H',s'.os=s.os/\AllBare s'.gens/\Un (frs outer) [] H H' s.heap s'.heap/\HOk P w H' s'.heap/\z4 v u/\Q v H'
def CR(CX:CXT)(outer:xl)(P:Program)(w:World)(H:Hp)(s:Shared)(Q:VK)(E:XK)(r:Result)(s':Shared):Prop :=
 match r with
 |.ok (.ret u)=>CE outer P w H s Q u s'
 |.ok _=>False
 |.error e=>CX outer H s E e s'
structure d9(P:Program)(w:World)(K:Frag)(mg:Str->Ψ)(base:Heap)(CX:CXT)(k:Nat)(f:Addr)(fd:FuncData)(ps:Θ)(sp:Sp):Prop where
 len:∀vs H Q E,sp vs H Q E->vs.length=ps.length
 run:∀(A:Around)(outer:xl)(s:Shared)(H:Hp)(args:Args)(us:Δ)(vs:Ε)(Q:VK)(E:XK),dH k A->Va P w K mg base A outer s H->BindsTo s fd args (ps.zip us)->z5 vs us->sp vs H Q E ->
  codeAny (model P w) A (.call (.ref f) args) (CR CX outer P w H s Q E) s
variable{f:Addr}{mg:Str->Ψ}{base:Heap}{CX:CXT}{fd:FuncData}{ps:Θ}{sp:Sp}{Q:VK}{E:XK}{vs cf:Ε}{ds:Δ}{x:Str}{ag:Pos}{scope:Scope}
def d9.imp{sp':Sp}(F:d9 P w K mg base CX k f fd ps sp)
 (h:∀vs H Q E,sp' vs H Q E->sp vs H Q E):d9 P w K mg base CX k f fd ps sp' :=
 ⟨λvs H Q E q=>F.len vs H Q E (h _ _ _ _ q),λA outer s H args us vs Q E hr he hb hv hs=>F.run A outer s H args us vs Q E hr he hb hv (h _ _ _ _ hs)⟩
def Va.make{outer:xl}(e:Va P w K mg base A outer s H)(C:Addr)(us:Δ)(kw:xh) :
  Va P w K mg base (A.under (.builtin "type.__call__" ⟨.ref C::us,kw⟩)) outer s H:=⟨by first|exact e.frames|(simpa[Around.under,Code.envs,Code.isFrame,pushEnvs]using e.frames),e.mod,e.bs,e.bsz,e.funs,e.frf,e.hok,e.bare⟩
def Inv.env0(I:Inv X aa σ H s):Va X.prog X.w X.K X.mg X.base X.A X.stack s H :=
 ⟨I.ok.frames,I.ok.mod,I.bs,aL I.ok.bsz I.sz,I.stack,I.stkFree,I.hok,I.bare⟩
def Inv.after(I:Inv X aa σ H s)(h:CE X.stack X.prog X.w H s Q u s'):EP X aa σ Q u s':=by
 obtain⟨v,H',os,bare,un,hok,r,q⟩:=h;obtain⟨hh,g,d,t,os'⟩:=s';obtain rfl:os'=s.os:=os;exact⟨v,H',I.call (h':=hh) (g':=g) (d':=d) (t':=t) (ch:=[]) un hok bare (λb z=>absurd z wr),r,q⟩
def anH(sp:Sp)(cf:Ε)(E:XK)(t:TA):TE:=λσ H Q=>t σ H λvs H1=>sp (vs++cf) H1 Q E
def ago(C:Addr)(m:Str)(sp:Sp)(cf:Ε)(E:XK)(ta:TE)(t:TA):TE:=λσ H Q=>ta σ H λx H1=>∃a dx fs,x=.ref a/\H1 a=some (.ins C dx fs)/\fs.lookup m=none /\
 t σ H1 λvs H2=>sp (x::(vs++cf)) H2 Q E
def amj(C:Addr)(sp:Sp)(cf:Ε)(E:XK)(t:TA):TE:=λσ H Q=>t σ H λvs H1=>∀x dx,H1 x=none->H1 dx=none->dx≠x ->
 sp (.ref x::(vs++cf)) (upd (upd H1 dx (.own x)) x (.ins C dx [])) (λv H2=>v=.non/\Q (.ref x) H2) E
def Binds(K:Frag)(fd:FuncData)(ps:Θ)(ds:Δ):Prop :=
 ∀(s:Shared)(us:Δ),K.In s.heap->(us++ds).length=ps.length->BindsTo s fd ⟨us,[]⟩ (ps.zip (us++ds))
def Binds.all(h:∀us:Δ,us.length=ps.length->bindArgs fd ⟨us,[]⟩=pure (ps.zip us)):Binds K fd ps []:=λs us _ hl=>by
 rw[List.append_nil]at hl ⊢;exact .of_eq (h us hl)
def Passes(CX:CXT)(X:Cx)(E:XK):Prop:=∀(aa:Γ)(σ:St)(H:Hp)(s:Shared)(e:Value)(s':Shared),Inv X aa σ H s->CX X.stack H s E e s'->X.xe e s'
def Jd(F:d9 X.prog X.w X.K X.mg X.base CX k f fd ps sp)(hr:dH k X.A)(hb:Binds X.K fd ps ds)(hd:z5 cf ds)(hx:Passes CX X E)
 (I:Inv X aa σ H s)(r:z5 vs us)(h:sp (vs++cf) H Q E):wpAny (model X.prog X.w) X.A (call (.ref f) us) (EP X aa σ Q) X.xe s:=by
 have r2:z5 (vs++cf) (us++ds):=r.append hd;have hl:(us++ds).length=ps.length:=by rw[<- r2.length];exact F.len _ _ _ _ h
 refine wpAny_call (codeAny_mono (F.run X.A X.stack s H ⟨us,[]⟩ (us++ds) (vs++cf) Q E hr I.env0 (hb s us I.kIn hl) r2 h) λr s' hq=>?_);cases r with
 |error e=>exact hx aa σ H s e s' I hq
 |ok fl =>
  cases fl with
  |ret u=>exact I.after hq
  |next=>exact False.elim hq
  |brk=>exact False.elim hq
  |cont=>exact False.elim hq
abbrev qh(X:Cx)(a:Pos)(b:ze):Prop:=(backTo a (starEach b X.env)).any (·.1)=false
def afq(F:d9 X.prog X.w X.K X.mg X.base CX k f fd ps sp)(hr:dH k X.A)(hg:Gl X x)(hm:X.mg x=some (.ref f))(hk:keepIn X.K (.ref f)=true)(hb:Binds X.K fd ps ds)(hd:z5 cf ds)(hx:Passes CX X E)
 (ha:PA X (e::es) t)(bo:qk x:=by decide)(he:qo X e es:=by rfl)(aE:qh X pos es:=by rfl) :
  PE X (.Call (.Name x p) (e::es) [] pos) (anH sp cf E t):=by
 intro aa s σ H Q I h;refine wpAny_Call_Name_kw (rH I hg hm ?_ bo);refine callWith_K (h₀:=X.base) I.ok.mod.kin hk (thn (ha pos aa s σ H _ I h) λus s1 ⟨vs,H1,I1,r,q⟩=>⟨I1.kIn,?_⟩) he aE;exact Jd F hr hb hd hx I1 r q
def afP(he:PE X o ta)(c:Cls X.K C)(hm:Meth X.K C m f)(F:d9 X.prog X.w X.K X.mg X.base CX k f fd ps sp)(hr:dH k X.A)(hb:Binds X.K fd ps ds)(hd:z5 cf ds)(hx:Passes CX X E)(ha:PA X (e::es) t)
 (bu:qo X e es:=by rfl)(aE:qh X pos es:=by rfl)
 (ht:eval (.Call (.Attribute o m ag) (e::es) [] pos) X.env=(do
   let ov <- eval o X.env
   standAt ag.atName
   let(f,first) <- holding [ov] (getMethod ov m pl)
   callWith pos f first (backTo pos (starEach (e::es) X.env)) (backToKw pos (keywordEach [] X.env))):=by rfl) :
  PE X (.Call (.Attribute o m ag) (e::es) [] pos) (ago C m sp cf E ta t):=by
 intro aa s σ H Q I h;refine methodCall_KW (pl:=pl) (thn (he aa s σ H _ I h) λu s1 hP=>?_) ht;obtain⟨x,H1,I1,rx,a,dx,fs,ex,ea,l,q⟩:=hP;subst ex;obtain rfl:u=Value.ref a:=rx;refine Bo I1 ea c hm l ?_;refine callWith_K (first:=[.ref a]) (h₀:=X.base) I.ok.mod.kin hm.kp (thn (ha pos aa s1 σ H1 _ I1 q) λus s2 ⟨vs,H2,I2,r,q2⟩=>⟨I2.kIn,?_⟩) bu aE;exact Jd (us:=.ref a::us) (vs:=.ref a::vs) F hr hb hd hx I2 (.cons rfl r) q2
def adF(he:PE X o ta)(c:Cls X.K C)(hm:Meth X.K C m f)(F:d9 X.prog X.w X.K X.mg X.base CX k f fd ps sp)(hr:dH k X.A)(hb:Binds X.K fd ps ds)(hd:z5 cf ds)(hx:Passes CX X E)
 (ht:eval (.Call (.Attribute o m ag) [] [] pos) X.env=(do
   let ov <- eval o X.env
   standAt ag.atName
   let(f,first) <- holding [ov] (getMethod ov m pl)
   callWith pos f first (backTo pos (starEach [] X.env)) (backToKw pos (keywordEach [] X.env))):=by rfl) :
  PE X (.Call (.Attribute o m ag) [] [] pos) (ago C m sp cf E ta ais):=by
 intro aa s σ H Q I h;refine methodCall_KW (pl:=pl) (thn (he aa s σ H _ I h) λu s1 hP=>?_) ht;obtain⟨x,H1,I1,rx,a,dx,fs,ex,ea,l,q⟩:=hP;subst ex;obtain rfl:u=Value.ref a:=rx;refine Bo I1 ea c hm l ?_;exact PySem.W.callWith_K0 (first:=[.ref a]) I1.kIn hm.kp (Jd (us:=[.ref a]) (vs:=[.ref a]) F hr hb hd hx I1 (.cons rfl .nil) q)
structure Mk(K:Frag)(C f:Addr):Prop where
 makes:makesIn K C=true
 init:findIn K (.ref C) "__init__"=some (some (.ref f))
 fn:isFn K (.ref f)=true
 kp:keepIn K (.ref C)=true
def adu(M:Mk X.K C f)(F:d9 X.prog X.w X.K X.mg X.base CX k f fd ps sp)(hr:dH (k+1) X.A)(hb:Binds X.K fd ps ds)(hd:z5 cf ds)
 (hx:Passes CX X E)(I:Inv X aa σ H s)(r:z5 vs us)
 (h:∀x dx,H x=none->H dx=none->dx≠x->sp (.ref x::(vs++cf)) (upd (upd H dx (.own x)) x (.ins C dx [])) (λv H2=>v=.non/\Q (.ref x) H2) E) :
  wpAny (model X.prog X.w) X.A (call (.ref C) us) (EP X aa σ Q) X.xe s:=by
 have hq:=h (s.heap.objs.size+1) s.heap.objs.size (I.hok.fresh (Xs _)) (I.hok.fresh (aG _)) (aQ (X0 _));have I2:=Inv.made (C:=C) I;have r2:z5 (V.ref (s.heap.objs.size+1)::(vs++cf)) (Value.ref (s.heap.objs.size+1)::(us++ds)):=.cons rfl (r.append hd);have hl:(Value.ref (s.heap.objs.size+1)::us++ds).length=ps.length:=by
  have e:=r2.length;rw[F.len _ _ _ _ hq]at e;exact e.symm
 refine wpAny_call (acI (f:=f) I.kIn M.makes M.init (beq_iff_eq.mp M.fn) (codeAny_mono (F.run _ X.stack _ _ ⟨Value.ref (s.heap.objs.size+1)::us,[]⟩ (Value.ref (s.heap.objs.size+1)::(us++ds)) _ _ E (hr.make C us [])
  (I2.env0.make C us []) (hb _ (Value.ref (s.heap.objs.size+1)::us) I2.kIn hl) r2 hq) λr s' df=>?_))
 cases r with
 |error e=>exact hx aa σ _ _ e s' I2 df
 |ok fl =>
  cases fl with
  |ret u =>
   obtain⟨v,H',I3,rv,ev,q3⟩:=I2.after df;subst ev;exact⟨rv,⟨V.ref (s.heap.objs.size+1),H',I3,rfl,q3⟩⟩
  |next=>exact False.elim df
  |brk=>exact False.elim df
  |cont=>exact False.elim df
def ad0(M:Mk X.K C f)(F:d9 X.prog X.w X.K X.mg X.base CX k f fd ps sp)(hr:dH (k+1) X.A)(hg:Gl X x)(hm:X.mg x=some (.ref C))(hb:Binds X.K fd ps ds)(hd:z5 cf ds)(hx:Passes CX X E)
 (ha:PA X (e::es) t)(bo:qk x:=by decide)(he:qo X e es:=by rfl)(aE:qh X pos es:=by rfl) :
  PE X (.Call (.Name x p) (e::es) [] pos) (amj C sp cf E t):=by
 intro aa s σ H Q I h;refine wpAny_Call_Name_kw (rH I hg hm ?_ bo);refine callWith_K (h₀:=X.base) I.ok.mod.kin M.kp (thn (ha pos aa s σ H _ I h) λus s1 ⟨vs,H1,I1,r,q⟩=>⟨I1.kIn,?_⟩) he aE;exact adu M F hr hb hd hx I1 r q
structure bK(N P:Θ)(sc:Scope):Prop where
 kind:sc.kind=.function
 co:sc.isCoroutine=false
 gen:sc.isGenerator=false
 nd:N.Nodup
 pre:N.take P.length=P
 par:∀x∈P,sc.names.lookup x=some .local\/sc.names.lookup x=some .cell
 nofree:∀y∈sc.names,y.2≠.free
theorem N_{kindOf:Str->Option NameKind}{x:Str} : ∀{binds:xh}{m:Str->Ψ},(∀v,(x,v)∉binds)->bindL kindOf binds m x=m x
 |[],_,_=>rfl
 |(n,v)::r,m,h=>by
  unfold bindL;rw[N_ λw hw=>h w (aJ _ hw)];split
  .have:x≠n:=by rintro rfl;exact h v aO
   simp[this]
  .rfl
theorem Og{kindOf:Str->Option NameKind}{x:Str} : ∀{binds:xh}{m:Str->Ψ},(∀v,(x,v)∉binds)->bindC kindOf binds m x=m x
 |[],_,_=>rfl
 |(n,v)::r,m,h=>by
  unfold bindC;rw[Og λw hw=>h w (aJ _ hw)];split
  .rfl
  .have:x≠n:=by rintro rfl;exact h v aO
   simp[this]
theorem Od{kindOf:Str->Option NameKind}{x:Str}{v:Value} : ∀{P:Θ}{vs:Δ}{i:Nat}{m:Str->Ψ},P.Nodup->P[i]?=some x->vs[i]?=some v->kindOf x=some .local ->
  bindL kindOf (P.zip vs) m x=some v
 |[],_,_,_,_,h,_,_=>by simp at h
 |_::_,[],_,_,_,_,h,_=>by simp at h
 |p::P,w::vs,0,m,nd,h1,h2,hk=>by
  simp at h1 h2;subst h1;subst h2;show bindL kindOf ((p,w)::P.zip vs) m p=_;unfold bindL;rw[N_ λv hv=>(List.nodup_cons.mp nd).1 (US hv).1,ZY hk];simp
 |p::P,w::vs,i+1,m,nd,h1,h2,hk=>by
  show bindL kindOf ((p,w)::P.zip vs) m x=_;unfold bindL;exact Od (i:=i) (List.nodup_cons.mp nd).2 (by simpa using h1) (by simpa using h2) hk
theorem Oe{kindOf:Str->Option NameKind}{x:Str}{v:Value} : ∀{P:Θ}{vs:Δ}{i:Nat}{m:Str->Ψ},P.Nodup->P[i]?=some x->vs[i]?=some v->kindOf x≠some .local ->
  bindC kindOf (P.zip vs) m x=some v
 |[],_,_,_,_,h,_,_=>by simp at h
 |_::_,[],_,_,_,_,h,_=>by simp at h
 |p::P,w::vs,0,m,nd,h1,h2,hk=>by
  simp at h1 h2;subst h1;subst h2;show bindC kindOf ((p,w)::P.zip vs) m p=_;unfold bindC;rw[Og λv hv=>(List.nodup_cons.mp nd).1 (US hv).1,ZZ hk];simp
 |p::P,w::vs,i+1,m,nd,h1,h2,hk=>by
  show bindC kindOf ((p,w)::P.zip vs) m x=_;unfold bindC;exact Oe (i:=i) (List.nodup_cons.mp nd).2 (by simpa using h1) (by simpa using h2) hk
def start(N:Θ)(vs:Ε):St:=vs.map some++List.replicate (N.length-vs.length) none
def Dg(CX:CXT)(P:Program)(w:World)(K:Frag)(mg:Str->Ψ)(base:Heap)(N:Θ)(ah:Str)(scope:Scope)(f:Addr)(cd:Value)(A:Around)(outer:xl)(s:Shared)(H:Hp)(E:XK):Cx where
 prog:=P
 w:=w
 K:=K
 mg:=mg
 base:=base
 A:=A.deeper (envOfC ah scope s.heap.objs.size f cd)
 N:=N
 s₀:=s
 H₀:=H
 env:=envOfC ah scope s.heap.objs.size f cd
 outer:=outer
 stack:=envOfC ah scope s.heap.objs.size f cd::outer
 ex:=[]
 calm:=true
 fn:=λ_=>true
 pn:=[]
 xe:=λe s'=>wpAny (model P w) (A.deeper (envOfC ah scope s.heap.objs.size f cd)) (leaving (envOfC ah scope s.heap.objs.size f cd) e) (λ_ mh=>CX outer H s E e mh) (λe' mh=>CX outer H s E e' mh) s'
def Vp{sc:Scope}{n:Nat}(h:sc.names.lookup x=some .cell):∃c,(cellsFrom n sc.names []).lookup x=some c:=by
 have q:=PySem.W.cellsFrom_some sc.names n [] (.inl h);exact Option.isSome_iff_exists.mp q
def aav{N:Θ}{ah:Str}{cd:Value}{outer:xl}{s1:Shared}
 (S:bK N ps scope)(hd:A.handled=none)(e0:Va P w K mg base A outer s H)(hl:vs.length=ps.length)(r:z5 vs us)
 (x:InCallC s s.heap.objs.size (bindL (envOfC ah scope s.heap.objs.size f cd).kindOf (ps.zip us) λ_=>none) (cellsFrom (s.heap.objs.size+1) scope.names []) (bindC (envOfC ah scope s.heap.objs.size f cd).kindOf (ps.zip us) λ_=>none) s1) :
  Inv (Dg CX P w K mg base N ah scope f cd A outer s H E) [] (start N vs) H s1:=by
 have aE:ps.length<=N.length:=by have:=ZH List.length S.pre;rw[aY]at this;lia
 obtain⟨h1,tk,rfl,hk⟩:=x.done;have j2:∀b:Addr,b∉(Dg CX P w K mg base N ah scope f cd A outer s H E).ex:=λb z=>absurd (show b∈([] : Φ)from z) wr;refine⟨⟨e0.mod,S.kind,rfl,rfl,aG _,λy z c h1 h2=>?_,λy hy=>?_,λy c _ h=>?_,λ_=>hd,Around.frames_deeper e0.frames,.inr ⟨rfl,rfl⟩,λb z=>absurd z (j2 b),e0.bs,e0.bsz,λb _ _=>j2 b,λb z=>absurd z (j2 b),e0.funs,e0.frf⟩,
  rfl,e0.bare,Un.kept hk,⟨_,x.toInCall.ns,λi y v h1 h2 h3=>?_⟩,λy c h=>⟨_,x.cell y c h⟩,e0.hok.fresh (aG _),λy c h=>?_,λp hp=>absurd (show p∈([] : Γ)from hp) wr,e0.hok.kept hk,?_⟩
 .exact name_of_addr x.apart (PySem.mem_of_lookup h1) (PySem.mem_of_lookup h2)
 .have hy:scope.names.lookup y=some .cell\/scope.names.lookup y=some .free:=hy;rcases hy with hy|hy
  .exact Vp hy
  .exact absurd rfl (S.nofree _ (PySem.mem_of_lookup hy))
 .exact Y2 (x.above y c (PySem.mem_of_lookup h))
 .have hi:i<vs.length:=by
   unfold start at h2;by_cases hi:i<vs.length
   .exact hi
   .rw[aD (by simpa using hi)]at h2;rw[XG]at h2;split at h2<;>cases h2
  have ha:vs[i]?=some v:=by
   unfold start at h2;rw[aF (by simpa using hi),aq]at h2;cases e:vs[i]? with
   |none=>rw[e]at h2;cases h2
   |some a=>rw[e]at h2;cases h2;rfl
  obtain⟨u,hu,rv⟩:=r.get ha;have hp:ps[i]?=some y:=by
   rwa[<- S.pre,List.getElem?_take_of_lt (aR hi (WG hl))]
  have ndP:ps.Nodup:=by rw[<- S.pre];exact S.nd.sublist (List.take_sublist _ _)
  refine⟨u,rv,?_⟩;rcases S.par y (aC hp)with k|k
  .exact .inl ⟨k,Od ndP hp hu k⟩
  .obtain⟨c,e⟩:=Vp (n:=s.heap.objs.size+1) k;refine .inr ⟨.inl k,c,e,?_⟩;have q:=x.cell y c e;rw[Oe ndP hp hu (by show scope.names.lookup y≠_;rw[k];decide)]at q;exact q
 .exact e0.hok.fresh (Y2 (x.above y c (PySem.mem_of_lookup h)))
 .unfold start;show _=N.length;rw[aA,ak,aN];lia
def agz{ah:Str}{ff:Arguments}{dV kV bz pm ai ct oc:Value}{an od:Ω}
 {dy:Array (Ψ)}{N:Θ}(lk:K.lookup f=some ⟨oc,od,.func (PySem.W.fnOf name ah ff bv scope dV kV bz pm an ai ct),dy⟩)(aI:codeIn K ai ah=true)(S:bK N ps scope)
 (len:∀vs H Q E,sp vs H Q E->vs.length=ps.length)
 (bg:∀(A:Around)(outer:xl)(s:Shared)(H:Hp)(vs:Ε)(Q:VK)(E:XK),dH k (A.deeper (envOfC ah scope s.heap.objs.size f ai))->sp vs H Q E ->
   ∃t,PSs (Dg CX P w K mg base N ah scope f ai A outer s H E) bv t/\t { nx:=λ_ H'=>Q .non H',rt:=Q } (start N vs) H) :
  d9 P w K mg base CX (k+1) f (PySem.W.fnOf name ah ff bv scope dV kV bz pm an ai ct) ps sp:=by
 refine⟨len,λA outer s H args us vs Q E hr e0 hb r eW=>?_⟩;have hl:=len _ _ _ _ eW;have KX:K.In s.heap:=e0.mod.kin.keeps λb o e=>(e0.bs b o e).1;have lim:s.heap.NoLimit:=e0.mod.nolimit.keeps λb o e=>(e0.bs b o e).1;have ck:∀y∈ps.zip us,scope.names.lookup y.1=some .local\/(scope.names.lookup y.1=some .cell/\((cellsFrom (s.heap.objs.size+1) scope.names []).lookup y.1).isSome=true):=λ⟨n,v⟩ hy=>by
  rcases S.par n (US hy).1 with q|q
  .exact .inl q
  .exact .inr ⟨q,PySem.W.cellsFrom_some _ _ _ (.inl q)⟩
 refine codeAny_call_function hr.depth (KX _ _ lk) rfl S.co S.gen rfl (PySem.W.codeRec_of KX aI) (hb _ _ _ _ ?_);refine wpAny_newFunctionEnv_cells S.kind ck λenv he s1 x=>?_;subst he;refine⟨lim.keeps x.toInCall.keep,codeAny_func ?_⟩;obtain⟨t,ht,hq⟩:=bg A outer s H vs Q E (hr.deeper _) eW;have I:Inv (Dg CX P w K mg base N ah scope f ai A outer s H E) [] (start N vs) H s1:=aav S hr.hd e0 hl r x;refine wpAny_mono (ht [] s1 (start N vs) H _ I hq) (λfl s' hs=>?_) λe s' hs=>hs;have fin:∀{σ':St}{H':Hp}{v:V}{u:Value},Inv (Dg CX P w K mg base N ah scope f ai A outer s H E) [] σ' H' s'->z4 v u->Q v H'->CE outer P w H s Q u s' :=
  λ{σ' H' v u}J rv q=>⟨v,H',J.os,J.bare,J.base,J.hok,rv,q⟩
 cases fl with
 |ret u =>
  obtain⟨v,σ',H',J,rv,q⟩:=hs;exact fin J rv q
 |next =>
  obtain⟨σ',H',J,q⟩:=hs;exact fin (v:=V.non) (u:=Value.none) J rfl q
 |brk =>
  obtain⟨_,_,_,q⟩:=hs;exact False.elim q
 |cont =>
  obtain⟨_,_,_,q⟩:=hs;exact False.elim q
section
variable{X:Cx}{x:Str}{p pos:Pos}{e:Expr}{es:ze}{t:TA}{id T:String}{r:Ε->Hp->VK->Prop}
def tCB(r:Ε->Hp->VK->Prop)(t:TA):TE:=λσ H Q=>t σ H λvs H1=>r vs H1 Q
def uc(hc:ig X (.builtin id) r)(hg:Gl X x)(hm:X.mg x=none)(hv:bootBuiltins x=some (.builtin id))(ha:PA X (e::es) t)(hn:x≠"__name__":=by decide)(bo:qk x:=by decide)
 (he:qo X e es:=by rfl)(aE:qh X pos es:=by rfl):PE X (.Call (.Name x p) (e::es) [] pos) (tCB r t):=by
 intro aa s σ H Q I h;refine wpAny_Call_Name_kw (Ao I hg hm hv ?_ hn bo);exact PyProof.Rows.callWith_builtin1 (thn (ha pos aa s σ H _ I h) λus s1 hP=>by obtain⟨vs,H1,I1,r1,q1⟩:=hP;exact hc aa s1 σ H1 vs us Q I1 r1 q1) he aE
def Nj(hc:ig X (.type T) r)(hg:Gl X x)(hm:X.mg x=none)(hv:bootBuiltins x=some (.type T))(ha:PA X (e::es) t)(hn:x≠"__name__":=by decide)(bo:qk x:=by decide)
 (he:qo X e es:=by rfl)(aE:qh X pos es:=by rfl):PE X (.Call (.Name x p) (e::es) [] pos) (tCB r t):=by
 intro aa s σ H Q I h;refine wpAny_Call_Name_kw (Ao I hg hm hv ?_ hn bo);exact PyProof.Rows.callWith_type1 (thn (ha pos aa s σ H _ I h) λus s1 hP=>by obtain⟨vs,H1,I1,r1,q1⟩:=hP;exact hc aa s1 σ H1 vs us Q I1 r1 q1) he aE
end
end L2
namespace HT
open PySem PyProof.Rows
def sIx(n d:Nat):xz->Nat
 |none=>d
 |some v=>if v<0 then(v+(n:Int)).toNat else min v.toNat n
theorem acq(n d:Nat):sIx n d none=d:=rfl
def uy(n d k:Nat):sIx n d (some (k:Int))=min k n:=by
 show(if(k:Int)<0 then((k:Int)+(n:Int)).toNat else min (k:Int).toNat n)=min k n;rw[ZZ (Int.not_lt_of_ge (X9 _)),Int.toNat_natCast]
def agN(n d:Nat)(hd:d<=n)(o:xz):sIx n d o<=n:=by
 cases o with
 |none=>exact hd
 |some v =>
  show(if v<0 then(v+(n:Int)).toNat else min v.toNat n)<=n;by_cases hv:v<0
  .rw[ZY hv];lia
  .rw[ZZ hv];exact Nat.min_le_right _ _
end HT
namespace L2
open PySem PySem.Spec PyProof.Rows
abbrev TO:=St->Hp->(xz->Hp->Prop)->Prop
def PO(X:Cx)(e:Option Expr)(t:TO):Prop :=
 ∀(aa:Γ)(s:Shared)(σ:St)(H:Hp)(Q:xz->Hp->Prop),Inv X aa σ H s->t σ H Q ->
  wpAny (model X.prog X.w) X.A (evalPart e X.env) (λu s'=>∃o H',Inv X aa σ H' s'/\IsPart u o/\Q o H') X.xe s
def afR:TO:=λ_ H Q=>Q none H
def anP(t:TE):TO:=λσ H Q=>t σ H λx H1=>∃i,x=.int i/\Q (some i) H1
def intsAre_of{ns:xy} : ∀{us:Δ},z5 (ns.map V.int) us->IntsAre us ns:=by
 induction ns with
 |nil=>intro us r;rw[List.map_nil]at r;cases r;exact .nil
 |cons n ns ih =>
  intro us r;rw[List.map_cons]at r;cases r with
  |cons r1 r2 =>
   obtain⟨t,e⟩:=r1;subst e;exact .cons n t (ih r2)
variable{X:Cx}{e:Expr}{te:TE}{lo hi:Option Expr}{tl th:TO}{pos p2:Pos}{α:Type}{n:Nat}{aa:Γ}{σ:St}{H:Hp}{s:Shared}{xs ys:Ε}{l:Addr}
def aeb:PO X none afR:=by
 intro aa s σ H Q I h;rw[evalPart_none];exact ZT ⟨none,H,I,.none,h⟩
def afV(h:PE X e te):PO X (some e) (anP te):=by
 intro aa s σ H Q I hw;rw[evalPart_some];refine thn (h aa s σ H _ I hw) λu s1 hP=>?_;obtain⟨x,H1,I1,r1,q1⟩:=hP;obtain⟨i,rfl,q⟩:=q1;obtain⟨t,rfl⟩:=r1;exact⟨some i,H1,I1,.int i t,q⟩
def SlR(X:Cx)(r:V->xz->xz->Hp->VK->Prop):Prop :=
 ∀(aa:Γ)(s:Shared)(σ:St)(H:Hp)(x:V)(v vl vu:Value)(lo hi:xz)(sl:Addr)(Q:VK),Inv X aa σ H s->z4 x v->s.heap.IsSliceOf sl vl vu .none->IsPart vl lo->IsPart vu hi->r x lo hi H Q ->
  ∃T id,typeLookup (.type T) "__getitem__"=pure (some (.builtin id))/\s.TypeIs v T/\wpAny (model X.prog X.w) X.A (getItem v (.ref sl)) (EP X aa σ Q) X.xe s
def SlR.or{r r':V->xz->xz->Hp->VK->Prop}(h:SlR X r)(h':SlR X r'):SlR X (λx lo hi H Q=>r x lo hi H Q\/r' x lo hi H Q):=by
 intro aa s σ H x v vl vu lo hi sl Q I rx hs pl pu q;rcases q with q|q
 .exact h aa s σ H x v vl vu lo hi sl Q I rx hs pl pu q
 .exact h' aa s σ H x v vl vu lo hi sl Q I rx hs pl pu q
def tSl(r:V->xz->xz->Hp->VK->Prop)(te:TE)(tl th:TO):TE:=λσ H Q=>te σ H λx H1=>tl σ H1 λl H2=>th σ H2 λu H3=>r x l u H3 Q
def abh{r:V->xz->xz->Hp->VK->Prop}(hr:SlR X r)(he:PE X e te)(hl:PO X lo tl)(hu:PO X hi th):PE X (.Subscript e (.Slice lo hi none p2) pos) (tSl r te tl th):=by
 intro aa s σ H Q I h;refine Subscript_ (thn (he aa s σ H _ I h) λv s1 hP=>?_);obtain⟨x,H1,I1,r1,q1⟩:=hP;refine wpAny_Slice (thn (hl aa s1 σ H1 _ I1 q1) λvl s2 ⟨l,H2,I2,pl,q2⟩=>thn (hu aa s2 σ H2 _ I2 q2) λvu s3 hP=>?_);obtain⟨u,H3,I3,pu,q3⟩:=hP;rw[evalPart_none];refine ZT ?_;have I4:Inv X aa σ H3 { s3 with heap:=s3.heap.push { cls:=.type "slice",data:=.fields #[vl,vu,.none] } }:=I3.kept (t':=s3.toks) λb ob q=>aH _ q;obtain⟨T,id,hT,ht,hg⟩:=hr aa { s3 with heap:=s3.heap.push { cls:=.type "slice",data:=.fields #[vl,vu,.none] } } σ H3 x v vl vu l u s3.heap.objs.size Q I4 r1 (Heap.IsSliceOf.new ..) pl pu q3;show wpAny (model X.prog X.w) X.A (subscriptTail e (.Slice lo hi none p2) v (.ref s3.heap.objs.size)) (EP X aa σ Q) X.xe { s3 with heap:=s3.heap.push { cls:=.type "slice",data:=.fields #[vl,vu,.none] } };exact tail_any (ops:=[.ref s3.heap.objs.size,v]) ht hT hg (by with_unfolding_all rfl)
def aaF(xs:Ε)(lo hi:xz):Ε:=(xs.drop (HT.sIx xs.length 0 lo)).take (HT.sIx xs.length xs.length hi-HT.sIx xs.length 0 lo)
def Vh(xs:Ε)(lo hi:xz):(aaF xs lo hi).length<=xs.length:=by
 unfold aaF;rw[aY,UZ];lia
def ixN(n:Nat)(i:Int):xC:=if 0<=i then(if i<n then some i.toNat else none)else if -(n:Int)<=i then some (i+n).toNat else none
def atI(xs:List α)(i:Int):Option α:=(ixN xs.length i).bind λj=>xs[j]?
def Yu{i:Int}{j:Nat}(h:ixN n i=some j):seqIndex? i n=some j/\j<n/\-(n:Int)<=i/\i<n:=by
 unfold ixN at h;by_cases h0:0<=i
 .rw[ZY h0]at h;by_cases h1:i<n
  .rw[ZY h1]at h;have e:i.toNat=j:=Option.some.inj h;exact⟨by rw[seqIndex_of h0 h1,e],by lia,by lia,h1⟩
  .rw[ZZ h1]at h;cases h
 .rw[ZZ h0]at h;by_cases h1 : -(n:Int)<=i
  .rw[ZY h1]at h;have e:(i+n).toNat=j:=Option.some.inj h;exact⟨by rw[seqIndex_neg (T2 h0) h1,e],by lia,h1,by lia⟩
  .rw[ZZ h1]at h;cases h
def Rx{xs:List α}{i:Int}{v:α}(h:atI xs i=some v):∃j,seqIndex? i xs.length=some j/\xs[j]?=some v/\j<xs.length/\-(xs.length:Int)<=i/\i<xs.length:=by
 unfold atI at h;cases e:ixN xs.length i with
 |none=>rw[e]at h;cases h
 |some j =>
  rw[e]at h;obtain⟨h1,h2,h3,h4⟩:=Yu e;exact⟨j,h1,h,h2,h3,h4⟩
def aev{xs:List α}{j:Nat}{v:α}(h:xs[j]?=some v):atI xs (j:Int)=some v:=by
 have hj:j<xs.length:=(ao.mp h).1;have e:ixN xs.length (j:Int)=some j:=by
  unfold ixN;rw[ZY (X9 _),ZY wo];simp
 unfold atI;rwa[e]
def pH(b:Expr):Prop:=∀o i,subscripted b false o i=operate [o,i] (getItem o i)
def IxR(X:Cx)(r:R2):Prop :=
 ∀(ar br:Expr)(aa:Γ)(s:Shared)(σ:St)(H:Hp)(x y:V)(v u:Value)(Q:VK),Inv X aa σ H s->z4 x v->z4 y u->r x y H Q ->
  subscripted br false v u=operate [v,u] (getItem v u)->wpAny (model X.prog X.w) X.A (subscriptTail ar br v u) (EP X aa σ Q) X.xe s
def MtR(X:Cx)(id:String)(r:V->Ε->Hp->VK->Prop):Prop :=
 ∀(aa:Γ)(s:Shared)(σ:St)(H:Hp)(x:V)(xs:Ε)(v:Value)(us:Δ)(Q:VK),Inv X aa σ H s->z4 x v->z5 xs us->r x xs H Q ->
  wpAny (model X.prog X.w) X.A (call (.builtin id) (v::us)) (EP X aa σ Q) X.xe s
section
variable{X:Cx}{a b:Expr}{ta tb:TE}{pos:Pos}
def IxR.or{r r':R2}(h:IxR X r)(h':IxR X r'):IxR X (λx y H Q=>r x y H Q\/r' x y H Q):=by
 intro ar br aa s σ H x y v u Q I rx ry q hs;rcases q with q|q
 .exact h ar br aa s σ H x y v u Q I rx ry q hs
 .exact h' ar br aa s σ H x y v u Q I rx ry q hs
def Jk{r:R2}(hr:IxR X r)(ha:PE X a ta)(hb:PE X b tb)(hs:pH b):PE X (.Subscript a b pos) (tOp r ta tb):=by
 intro aa s σ H Q I h;exact Subscript_ (aiW ha hb I h λv u s2 x y H2 I2 rx ry q=>hr a b aa s2 σ H2 x y v u Q I2 rx ry q (hs _ _))
def aof(K:Frag):R2:=λx y H Q=>∃p xs i v,x=.ref p/\y=.int i/\SqL K H p xs/\atI xs i=some v/\Q v H
def aoU(K:Frag):R2:=λx y H Q=>∃p xs i v,x=.ref p/\y=.int i/\SqT K H p xs/\atI xs i=some v/\Q v H
def aoP:R2:=λx y H Q=>∃z i c,x=.str z/\y=.int i/\z.length<=sizeLine/\atI z.cps.toList i=some c/\Q (.str ⟨#[c]⟩) H
def vo:IxR X (aof X.K):=by
 intro ar br aa s σ H x y v u Q I rx ry h hs;obtain⟨p,xs,i,z,rfl,rfl,hq,he,q⟩:=h;cases rx;obtain⟨t,rfl⟩:=ry;obtain⟨its,r,pl,hz⟩:=I.list hq;obtain⟨j,h1,h2,h3,h4,h5⟩:=Rx he;obtain⟨w,ew,fe⟩:=r.get h2;have hl:=r.length;have hn:=yC;have fin:EP X aa σ Q w s:=⟨z,H,I,fe,q⟩;by_cases h0:0<=i
 .have hj:i.toNat=j:=by
   rw[seqIndex_of h0 h5]at h1;exact Option.some.inj h1
  exact item_listR pl.isList h0 wo (by rw[hj];simpa using ew) fin hs
 .have hj:(i+(its.toArray.size:Int)).toNat=j:=by
   rw[seqIndex_neg (T2 h0) h4]at h1;rw[aX,<- hl];exact Option.some.inj h1
  exact subscriptTail_builtinR (x:=w) pl.isList.typeIs slot_list_getitem.lookup
   (wpAny_getItem_list_neg (Q:=λr s'=>r=w/\EP X aa σ Q r s') pl.isList (T2 h0) (by rw[aX]<;>lia) wo (by rw[hj];simpa using ew) ⟨rfl,fin⟩) hs
def ahQ:IxR X (aoU X.K):=by
 intro ar br aa s σ H x y v u Q I rx ry h hs;obtain⟨p,xs,i,z,rfl,rfl,hq,he,q⟩:=h;cases rx;obtain⟨t,rfl⟩:=ry;obtain⟨its,r,pl,hz⟩:=I.tuple hq;obtain⟨j,h1,h2,h3,h4,h5⟩:=Rx he;obtain⟨w,ew,fe⟩:=r.get h2;have hl:=r.length;have hn:=yC;have fin:EP X aa σ Q w s:=⟨z,H,I,fe,q⟩;exact subscriptTail_builtinR (x:=w) pl.typeIs slot_tuple_getitem.lookup
  (getItem_tuple (j:=j) (Q:=λr s'=>r=w/\EP X aa σ Q r s') pl wo wo (by rwa[aX,<- hl]) (by simpa using ew) ⟨rfl,fin⟩) hs
def ahu:IxR X aoP:=by
 intro ar br aa s σ H x y v u Q I rx ry h hs;obtain⟨z,i,c,rfl,rfl,hz,he,q⟩:=h;obtain⟨t,rfl⟩:=rx;obtain⟨t',rfl⟩:=ry;obtain⟨j,h1,h2,h3,h4,h5⟩:=Rx he;have hl:z.cps.toList.length=z.length:=by simp[Str.length]
 rw[hl]at h1 h4 h5;have hn:=yC;exact tail_any (typeIs_str s z t) slot_str_getitem.lookup (getItem_str (c:=c) (by
  have e1:decide (i < -(2^63:Int))=false:=Zp wo;have e2:decide (i>=2^63)=false:=Zp wo;rw[e1,e2,Bool.or_false]) (by rw[h1];simpa using h2) ⟨.str ⟨#[c]⟩,H,I.tok _,⟨_,rfl⟩,q⟩) hs
def V1(its:Δ)(n j:Nat)(u:Value):Obj.mapSeq (·.setIfInBounds j u) { cls:=.type "list",data:=.seq its.toArray n }={ cls:=.type "list",data:=.seq (its.set j u).toArray n }:=by
 simp[Obj.mapSeq]
def Inv.lst{aa:Γ}{σ:St}{H:Hp}{s:Shared}{p:Addr}{xs:Ε}(I:Inv X aa σ H s)(h:H p=some (.lst xs)) :
  ∃(its:Δ)(n:Nat),z5 xs its/\s.heap.get? p=some { cls:=.type "list",data:=.seq its.toArray n }/\xs.length<=sizeLine:=by
 obtain⟨z,its,n,r,e⟩:=I.hok p _ h;exact⟨its,n,r,e,z⟩
def Inv.lstUpd{p:Addr}{its its':Δ}{n':Nat}{f:Obj->Obj}(I:Inv X aa σ H s)(h:H p=some (.lst xs))
 (ho:s.heap.get? p=some { cls:=.type "list",data:=.seq its.toArray n })(hf:f { cls:=.type "list",data:=.seq its.toArray n }={ cls:=.type "list",data:=.seq its'.toArray n' })(r:z5 ys its')(hz:ys.length<=sizeLine)(t:Nat) :
  Inv X aa σ (upd H p (.lst ys)) { s with heap:=s.heap.update p f,toks:=t }:=by
 have e:(s.heap.update p f).get? p=some { cls:=.type "list",data:=.seq its'.toArray n' }:=by
  rw[Heap.get?_update_self f ho (by rw[hf]<;>rfl),hf]
 refine I.write (x:=p) (e:=p) (by rw[h];trivial) (.inl rfl) (λb u hb q=>(Heap.get?_update_other _ _ (Ne.symm hb)).trans q) ⟨_,e⟩ ?_;exact⟨hz,its',n',r,e⟩
def anh:V->V->V->Hp->(Hp->Prop)->Prop:=λo i v H Q=>∃p xs k j,o=.ref p/\i=.int k/\H p=some (.lst xs)/\ixN xs.length k=some j/\Q (upd H p (.lst (xs.set j v)))
def set_list:ajw X anh:=by
 intro aa s σ H o i v ov iv u Q I ro ri rv h;obtain⟨p,xs,k,j,rfl,rfl,hp,hj,q⟩:=h;cases ro;obtain⟨t,rfl⟩:=ri;obtain⟨its,n,r,ho,hz⟩:=I.lst hp;obtain⟨h1,h2,h3,h4⟩:=Yu hj;have hl:=r.length;have hn:=yC;have I':Inv X aa σ (upd H p (.lst (xs.set j v))) { s with heap:=s.heap.update p (Obj.mapSeq (·.setIfInBounds j u)) } :=
  I.lstUpd hp ho (V1 its n j u) (r.set rv j) (by rwa[WH]) s.toks
 by_cases h0:0<=k
 .have hk:k.toNat=j:=by
   rw[seqIndex_of h0 h4]at h1;exact Option.some.inj h1
  exact PySem.W.ki_setAt ho h0 wo (by rwa[aX,<- hl]) (by rw[hk];exact⟨_,I',q⟩)
 .have hk:(k+(its.toArray.size:Int)).toNat=j:=by
   rw[seqIndex_neg (T2 h0) h3]at h1;rw[aX,<- hl];exact Option.some.inj h1
  exact PySem.W.ki_setBack ho (T2 h0) (by rwa[aX,<- hl]) wo (by rw[hk];exact⟨_,I',q⟩)
def Ql(lo hi:xz)(n:Nat):(sliceBounds lo hi none n).1=((HT.sIx n 0 lo:Nat):Int)/\(sliceBounds lo hi none n).2.1=((HT.sIx n n hi:Nat):Int)/\(sliceBounds lo hi none n).2.2=1:=by
 refine⟨?_,?_,rfl⟩
 .cases lo with
  |none=>simp[sliceBounds,HT.sIx]
  |some i =>
   simp only[sliceBounds,HT.sIx,Option.getD_none,show(1:Int)>0 by decide,if_true];by_cases h:i<0
   .simp only[h,if_true]<;>lia
   .simp only[h,if_false]<;>lia
 .cases hi with
  |none=>simp[sliceBounds,HT.sIx]
  |some i =>
   simp only[sliceBounds,HT.sIx,Option.getD_none,show(1:Int)>0 by decide,if_true];by_cases h:i<0
   .simp only[h,if_true]<;>lia
   .simp only[h,if_false]<;>lia
def L_(its:Δ)(lo hi:xz):slicePick its.toArray lo hi none=((its.drop (HT.sIx its.length 0 lo)).take (HT.sIx its.length its.length hi-HT.sIx its.length 0 lo)).toArray:=by
 obtain⟨h1,h2,h3⟩:=Ql lo hi its.toArray.size;unfold slicePick;rw[h1,h2,h3];simp only[sliceRange_one,pick_run,aX]<;>rfl
def apo(K:Frag):V->xz->xz->Hp->VK->Prop:=λx lo hi H Q=>∃a xs,x=.ref a/\SqL K H a xs/\∀p,H p=none->Q (.ref p) (upd H p (.lst (aaF xs lo hi)))
def aeC:SlR X (apo X.K):=by
 intro aa s σ H x v vl vu lo hi sl Q I rx hs pl pu h;obtain⟨a,xs,rfl,hx,q⟩:=h;cases rx;obtain⟨its,r,ht,hz⟩:=I.list hx;have be:=r.length;refine⟨"list",_,slot_list_getitem.lookup,ht.isList.typeIs,?_⟩;refine wpAny_getItem_list_slice ht.isList hs pl pu .none wr ?_ (by rw[aX]<;>lia);rw[L_,<- be];refine⟨.ref s.heap.objs.size,_,I.laid (t':=s.toks) (o:=.lst (aaF xs lo hi)) (λb ob q=>aH _ q) (aG _) ?_,rfl,q _ (I.hok.fresh (aG _))⟩;exact⟨aL (Vh xs lo hi) hz,_,0,(r.drop (HT.sIx xs.length 0 lo)).take (HT.sIx xs.length xs.length hi-HT.sIx xs.length 0 lo),aW _ rfl⟩
def N7:V->Bool
 |.non=>true
 |.bl _=>true
 |.int _=>true
 |.str _=>true
 |_=>false
def eqV:V->V->Bool
 |.non,.non=>true
 |.bl a,.bl b=>a==b
 |.bl a,.int b=>(if a then 1 else 0)==b
 |.int a,.bl b=>a==(if b then 1 else 0)
 |.int a,.int b=>a==b
 |.str a,.str b=>a==b
 |_,_=>false
def Q8:ig X (.builtin "len") (λxs H Q=>∃p ys,xs=[.ref p]/\(SqL X.K H p ys\/SqT X.K H p ys)/\Q (.int ys.length) H):=by
 intro aa s σ H xs us Q I r h;obtain⟨p,ys,rfl,hq,q⟩:=h;obtain⟨u,rfl,rx⟩:=vals1 r;cases rx;have hn:=yC;rcases hq with hq|hq
 .obtain⟨its,r',pl,hz⟩:=I.list hq;have be:=r'.length;exact Calls.call_len_list pl.isList (by simp only[aX]<;>lia) ⟨.int ys.length,H,I.tok _,⟨s.toks+1,by rw[aX,be]⟩,q⟩
 .obtain⟨its,r',pl,hz⟩:=I.tuple hq;have be:=r'.length;exact len_tuple pl (by simp only[aX]<;>lia) ⟨.int ys.length,H,I.tok _,⟨s.toks+1,by rw[aX,be]⟩,q⟩
def Ov:ig X (.builtin "len") (λxs H Q=>∃z,xs=[.str z]/\z.length<=sizeLine/\Q (.int z.length) H):=by
 intro aa s σ H xs us Q I r h;obtain⟨z,rfl,hz,q⟩:=h;obtain⟨u,rfl,t,rfl⟩:=vals1 r;have hn:=yC;exact len_str wo ⟨.int z.length,H,I.tok _,⟨_,rfl⟩,q⟩
def Pk:ig X (.type "list") (λxs H Q=>∃p ys,xs=[.ref p]/\(SqL X.K H p ys\/SqT X.K H p ys)/\∀l,H l=none->Q (.ref l) (upd H l (.lst ys))):=by
 intro aa s σ H xs us Q I r h;obtain⟨p,ys,rfl,hq,q⟩:=h;obtain⟨u,rfl,rx⟩:=vals1 r;cases rx;have fin:∀(its:Δ),z5 ys its->ys.length<=sizeLine->∀(h':Heap)(c':Nat),(∀b o',s.heap.get? b=some o'->h'.get? b=some o') ->
   h'.get? s.heap.objs.size=some { cls:=.type "list",dict:=none,data:=.seq its.toArray c',slots:=#[] }->EP X aa σ Q (.ref s.heap.objs.size) { s with heap:=h' }:=λits r' hz h' c' kp e =>
  ⟨.ref s.heap.objs.size,_,I.laid (t':=s.toks) kp (aG _) (show eZ X.prog X.w _ h' _ (.lst ys)from⟨hz,its,c',r',e⟩),rfl,q _ (I.hok.fresh (aG _))⟩
 rcases hq with hq|hq
 .obtain⟨its,r',pl,hz⟩:=I.list hq;have be:=r'.length;obtain⟨o,ho,hc,n,hd⟩:=pl.isList;exact call_list_seq p (.inl rfl) ho hc hd (λh' c' kp e=>fin its r' hz h' c' kp e) (by simp only[aX]<;>lia)
 .obtain⟨its,r',pl,hz⟩:=I.tuple hq;have be:=r'.length;obtain⟨o,ho,hc,n,hd⟩:=pl;exact call_list_seq p (.inr rfl) ho hc hd (λh' c' kp e=>fin its r' hz h' c' kp e) (by simp only[aX]<;>lia)
def Mv:ig X (.type "tuple") (λxs H Q=>∃p ys,xs=[.ref p]/\((SqL X.K H p ys/\∀l,H l=none->Q (.ref l) (upd H l (.tup ys)))\/(SqT X.K H p ys/\Q (.ref p) H))):=by
 intro aa s σ H xs us Q I r h;obtain⟨p,ys,rfl,h⟩:=h;obtain⟨u,rfl,rx⟩:=vals1 r;cases rx;rcases h with⟨hq,q⟩|⟨hq,q⟩
 .obtain⟨its,r',pl,hz⟩:=I.list hq;have be:=r'.length;refine call_tuple_list pl.isList (λh' kp=>?_) (by simp only[aX]<;>lia);have I1:Inv X aa σ H { s with heap:=h' }:=I.kept (t':=s.toks) kp;have I2:Inv X aa σ (upd H h'.objs.size (.tup ys)) { s with heap:=h'.push { cls:=.type "tuple",data:=.seq its.toArray } } :=
   I1.laid (t':=s.toks) (λb o e=>aH _ e) (aG _) (show eZ X.prog X.w _ _ _ (.tup ys)from⟨hz,its,r',IsTup.new _ _⟩)
  exact⟨.ref h'.objs.size,_,I2,rfl,q _ (I1.hok.fresh (aG _))⟩
 .obtain⟨its,r',pl,hz⟩:=I.tuple hq;exact call_tuple_same pl ⟨.ref p,H,I,rfl,q⟩
def tyV(K:Frag)(T:String)(x:V)(H:Hp):Prop:=match x with
 |.str _=>T="str"
 |.int _=>T="int"
 |.ref p=>(T="list"/\∃xs,SqL K H p xs)\/(T="tuple"/\∃o,K.lookup p=some o/\o.cls=.type "tuple"/\o.dict=none) \/
   (T="dict"/\(∃kvs,H p=some (.dK kvs)))\/(T="set"/\∃S n,H p=some (.set S n))
 |_=>False
def aiq{T:String}{x:V}{v:Value}(I:Inv X aa σ H s)(r:z4 x v)(ty:tyV X.K T x H) :
  s.TypeIs v T/\∀a,v=.ref a->∃ob,s.heap.get? a=some ob/\ob.dict=none:=by
 cases x with
 |str z =>
  obtain⟨t,rfl⟩:=r;cases(show T="str" from ty);exact⟨typeIs_str s z t,λ_ e=>nomatch e⟩
 |int i =>
  obtain⟨t,rfl⟩:=r;cases(show T="int" from ty);exact⟨typeIs_int s i t,λ_ e=>nomatch e⟩
 |ref p =>
  cases r;rcases ty with⟨rfl,xs,hq⟩|⟨rfl,o,hk,hc,hd⟩|⟨rfl,hk⟩|⟨rfl,S,n,hk⟩
  .obtain⟨its,_,pl,_⟩:=I.list hq;refine⟨pl.isList.typeIs,λa e=>?_⟩;cases e;obtain⟨o,n,e,c,hd,_⟩:=pl;exact⟨o,e,hd⟩
  .refine⟨⟨o,I.kIn p o hk,hc⟩,λa e=>?_⟩;cases e;exact⟨o,I.kIn _ o hk,hd⟩
  .have z:∃o,s.heap.get? p=some o/\o.ExactDict:=by
    obtain⟨kvs,hk⟩:=hk;obtain⟨_,_,_,_,o,_,_,e,ex,_⟩:=I.hok p _ hk;exact⟨o,e,ex⟩
   obtain⟨o,e,ex⟩:=z;refine⟨⟨o,e,ex.1⟩,λa e2=>?_⟩;cases e2;exact⟨o,e,ex.2.1⟩
  .obtain⟨o,_,_,_,e,ex,_⟩:=I.hok p _ hk;refine⟨⟨o,e,ex.1⟩,λa e2=>?_⟩;cases e2;exact⟨o,e,ex.2.1⟩
 |_=>exact False.elim ty
def tBM(K:Frag)(T:String)(r:V->Ε->Hp->VK->Prop)(to:TE)(t:TA):TE:=λσ H Q=>to σ H λx H1=>tyV K T x H1/\t σ H1 λxs H2=>r x xs H2 Q
variable{o e:Expr}{es:ze}{to:TE}{t:TA}{name:Str}{ag af:Pos}{T id:String}{r:V->Ε->Hp->VK->Prop}
abbrev zw(a b:Pos):Prop:=(a.endLine==b.line)=true
def agE(pa:PlainAttrs T)(slot:Slot T name id)(kn:typeOf (.builtin id)=pure (.type "method_descriptor"))(hm:MtR X id r)(ho:PE X o to)(ha:PA X (e::es) t)
 (kH:qB X o name:=by rfl)
 (oj:((backTo af (starEach (e::es) X.env)).all (λx=>!x.1)&&(backToKw af (keywordEach [] X.env)).all (λx=>x.1.isSome)
   && decide ((e::es).length+([] : xA).length+(if([] : xA).isEmpty then 0 else 1)<30))=true:=by rfl)
 (ky:zw ag af:=by rfl)(hs:qo X e es:=by rfl)(ir:qh X af es:=by rfl) :
  PE X (.Call (.Attribute o name ag) (e::es) [] af) (tBM X.K T r to t):=by
 intro aa s σ H Q I h;refine wpAny_Call_method_late kH oj ky rfl (thn (ho aa s σ H _ I h) λv s1 hP=>?_);obtain⟨x,H1,I1,r1,ty,q1⟩:=hP;obtain⟨h1,h2⟩:=aiq I1 r1 ty;refine⟨T,id,pa,slot,kn,h1,h2,?_⟩;have hA:=ha af aa s1 σ H1 _ I1 q1;rw[hs]at hA ⊢;refine Calls.callWith_builtin (by show(false || (backTo af (starEach es X.env)).any (·.1))=false;rw[ir]<;>rfl) (Calls.evalArgs_plain ?_);exact thn hA λus s2 hP=>by obtain⟨vs,H2,I2,r2,q2⟩:=hP;exact hm aa s2 σ H2 x vs v us Q I2 r1 r2 q2

end
def MtM(X:Cx)(id:String)(r:V->Ε->Hp->VK->Prop):Prop :=
 ∀(aa:Γ)(s:Shared)(σ:St)(H:Hp)(x:V)(xs:Ε)(v:Value)(us:Δ)(Q:VK),Inv X aa σ H s->z4 x v->z5 xs us->r x xs H Q ->
  wpAny (model X.prog X.w) X.A (call (.builtin id) (v::us)) (EP X aa σ Q) X.xe s
def z5.one:∀{x:V}{us:Δ},z5 [x] us->∃u,us=[u]/\z4 x u
 |_,_,.cons r .nil=>⟨_,rfl,r⟩
def z5.two{x y:V}{us:Δ}(h:z5 [x,y] us):∃u v,us=[u,v]/\z4 x u/\z4 y v:=by
 cases h with|cons r t=>cases t with|cons q t=>cases t;exact⟨_,_,rfl,r,q⟩
theorem z5.rep{xs:Ε}{us:Δ}(h:z5 xs us):∀k:Nat,z5 (List.replicate k xs).flatten (List.replicate k us).flatten
 |0=>.nil
 |k+1=>by
  rw[List.replicate_succ,List.replicate_succ,List.flatten_cons,List.flatten_cons];exact z5.append h (z5.rep h k)
theorem foldl_rep(its:Δ):∀(k:Nat)(acc:Δ),
  List.foldl (λx1 x2=>x1++x2) acc.toArray (List.replicate k its.toArray)=(acc++(List.replicate k its).flatten).toArray
 |0,acc=>by simp
 |k+1,acc=>by
  have e:acc.toArray++its.toArray=(acc++its).toArray:=by simp
  have e2:(acc++its)++(List.replicate k its).flatten=acc++(List.replicate (k+1) its).flatten:=by
   rw[List.replicate_succ,List.flatten_cons,Wp]
  rw[<- e2,<- foldl_rep its k (acc++its),<- e,List.replicate_succ,List.foldl_cons]
def Inv.lset{its its':Δ}{f:xi->xi}{t':Nat}(I:Inv X aa σ H s)(hH:H l=some (.lst xs))
 (e:s.heap.get? l=some { cls:=.type "list",data:=.seq its.toArray n })(hf:f its.toArray=its'.toArray)(hv:z5 ys its')(hz:ys.length<=sizeLine) :
  Inv X aa σ (upd H l (.lst ys)) { s with heap:=s.heap.update l (Obj.mapSeq f),toks:=t' }:=by
 have q:=PySem.IsL.update e f;rw[hf]at q;refine I.write (x:=l) (e:=l) (by rw[hH];exact trivial) (.inl rfl) (λb' u hb hu=>(Heap.get?_update_other s.heap (Obj.mapSeq f) (Ne.symm hb)).trans hu) ⟨_,q⟩ ?_;exact⟨hz,its',_,hv,q⟩
def Inv.lnew{its:Δ}{t':Nat}(I:Inv X aa σ H s)(hv:z5 ys its)(hz:ys.length<=sizeLine) :
  Inv X aa σ (upd H s.heap.objs.size (.lst ys)) { s with heap:=s.heap.push { cls:=.type "list",data:=.seq its.toArray },toks:=t' } :=
 I.laid (λ_ _ q=>aH _ q) (aG _) ⟨hz,its,0,hv,aW _ rfl⟩
def Inv.fresh(I:Inv X aa σ H s):H s.heap.objs.size=none:=I.hok.fresh (aG _)
def Inv.lstM(I:Inv X aa σ H s)(hH:H l=some (.lst xs)):xs.length<=sizeLine/\∃(its:Δ)(n:Nat),z5 xs its/\xs.length=its.length/\s.heap.get? l=some { cls:=.type "list",data:=.seq its.toArray n }:=by
 obtain⟨z,its,n,r,e⟩:=I.hok l _ hH;exact⟨z,its,n,r,r.length,e⟩
def aaT(h:n<=sizeLine):Builtin.List.listTooLong n=false:=by
 unfold Builtin.List.listTooLong;exact Zp (Ts h)
def adS:V->Ε->Hp->VK->Prop:=λx vs H Q=>∃l xs y,x=.ref l/\vs=[y]/\H l=some (.lst xs)/\xs.length<sizeLine/\Q .non (upd H l (.lst (xs++[y])))
def N5:MtM X "list.append" adS:=by
 intro aa s σ H x vs v us Q I rx rv h;obtain⟨l,xs,y,rfl,rfl,hH,hz,q⟩:=h;cases rx;obtain⟨u,rfl,ru⟩:=rv.one;obtain⟨z,its,n,r,hl,e⟩:=I.lstM hH;refine call_meets F.slot_list_append ⟨_,e,rfl⟩ F.entry_list_append (F.args_list_append_2 _ _) (PySem.list_append l its.toArray n u (by rw[aX];lia)) ⟨e,?_⟩;refine⟨.non,_,I.lset (its':=its++[u]) hH e wr (r.append (.cons ru .nil)) ?_,rfl,q⟩;rwa[aA,List.length_singleton]
def apB:R2:=λx y H Q=>∃l b xs zs,x=.ref l/\y=.ref b/\H l=some (.lst xs)/\H b=some (.lst zs)/\xs.length+zs.length<=sizeLine/\∀p,H p=none->Q (.ref p) (upd H p (.lst (xs++zs)))
def ahD:OpR X (binaryOp .Add) apB:=by
 intro aa s σ H x y v u Q I rx ry h;obtain⟨l,b,xs,zs,rfl,rfl,hH,hB,hz,q⟩:=h;cases rx;cases ry;obtain⟨z,its,n,r,hl,e⟩:=I.lstM hH;obtain⟨z2,kf,n2,r2,hl2,e2⟩:=I.lstM hB;refine PySem.P.add_list e e2 ?_ (by rw[aX,aX];lia);have ea:its.toArray++kf.toArray=(its++kf).toArray:=by simp
 rw[ea];exact⟨.ref _,_,I.lnew (t':=s.toks) (r.append r2) (by rw[aA];omega),rfl,q _ I.fresh⟩
def aol:R2:=λx y H Q=>∃l k xs,x=.ref l/\y=.int k/\H l=some (.lst xs)/\-(2^63)<=k/\k<2^63/\xs.length*k.toNat<=sizeLine /\
 ∀p,H p=none->Q (.ref p) (upd H p (.lst (List.replicate k.toNat xs).flatten))
def len_rep(xs:List α)(k:Nat):(List.replicate k xs).flatten.length=k*xs.length:=by
 induction k with
 |zero=>simp
 |succ k ih=>rw[List.replicate_succ,List.flatten_cons,aA,ih,Nat.succ_mul,Nat.add_comm]
def ahx:OpR X (binaryOp .Mult) aol:=by
 intro aa s σ H x y v u Q I rx ry h;obtain⟨l,k,xs,rfl,rfl,hH,h1,h2,hz,q⟩:=h;cases rx;obtain⟨t,rfl⟩:=ry;obtain⟨z,its,n,r,hl,e⟩:=I.lstM hH;have be:its.toArray.size*k.toNat<=sizeLine:=by rwa[aX,<- hl]
 have oS:¬its.toArray.size*k.toNat>(2^63-1)/8:=by
  have:(sizeLine:Nat)<=(2^63-1)/8:=by decide
  lia
 have og:¬(!Builtin.List.listFitsIndex k)=true:=by
  rw[fitsIndex_both h1 h2];exact bh
 have kx:¬Builtin.List.listTooLong (its.toArray.size*k.toNat)=true:=by
  rw[aaT be];exact bh
 have nS:List.foldl (λx1 x2=>x1++x2) #[] (List.replicate (if its.toArray.isEmpty=true then 0 else k.toNat) its.toArray)=(List.replicate k.toNat its).flatten.toArray:=by
  have f0:∀m:Nat,List.foldl (λx1 x2=>x1++x2) #[] (List.replicate m its.toArray)=(List.replicate m its).flatten.toArray:=λm=>by
   have:=foldl_rep its m [];rw[List.nil_append]at this;exact this
  rw[f0];cases its with
  |nil=>simp
  |cons a r'=>rw[ZZ wr]
 refine wpAny_binaryOp_repeat_ref (T:="list") (U:="int") wp ⟨_,e,rfl⟩ (λs'=>typeIs_int s' k t) noFill_list_mul F.fills_int_mul F.slot_int_rmul repeat_list F.slot_int_index.lookup
  (call_meets F.slot_int_rmul (typeIs_int s k t) F.entry_int_rmul (F.args_int_rmul_2 _ _) (int___rmul___int_list k t l its.toArray n)
   ⟨e,rfl,⟨_,e,rfl⟩,call_meets F.slot_list_mul ⟨_,e,rfl⟩ F.entry_list_mul (F.args_list_mul_2 _ _) (AutoListH.list___mul___list_int_3 l its.toArray n k t og oS kx) ⟨e,?_⟩⟩)
 rw[nS];exact⟨.ref _,_,I.lnew (t':=s.toks) (r.rep k.toNat) (by rwa[len_rep,Nat.mul_comm]),rfl,q _ I.fresh⟩
end L2
namespace Att
open PySem PySem.W PySem.Calls PyProof.Rows
def G3{P:Params}{h:Heap} : ∀(ns:xy)(vs:Δ),WellAll P h vs (ns.map WData.int)->IntsAre vs ns:=by
 intro ns
 induction ns with
 |nil =>
  intro vs w;rw[List.map_nil]at w;cases w;exact .nil
 |cons n ns ih =>
  intro vs w;rw[List.map_cons]at w;cases w with
  |cons a b =>
   cases a;exact .cons _ _ (ih _ b)
variable{l:OpenLaw}
def aao{n:Nat}(hn:l.most=some n){P:Params}{h:Heap}{args:List WData}{h8:Δ}
 (eS:l.row.toRowW.claim.pre args=true)(mS:WellAll P h h8 args) :
  ∃a vs ns,h8=[Value.ref a]/\args=[WData.list (ns.map WData.int)]/\h.get? a=some { cls:=.type "list",data:=.seq vs.toArray }/\IntsAre vs ns/\ns.length<=n:=by
 have g6:WShape.hasAll [] args [.list .int]=true:=(pre_splitW eS).1;have hc:l.pre.holds [] { args:=args }=true:=(pre_splitW eS).2;obtain⟨d,r,rfl,h1,h2⟩:=hasAllW_cons g6;obtain rfl:=hasAllW_nil h2;obtain⟨xs,rfl,h3⟩:=hasW_list h1;obtain⟨ns,rfl⟩:=items_int h3;have be:ns.length<=n:=by
  unfold OpenLaw.pre at hc;have h4:(WTm.not (.lt (.lit (.int (n:Int))) (.len (.arg 0)))).holds [] { args:=[.list (ns.map .int)] }=true:=by
   have h4:=(holds_andW hc).1;rw[hn]at h4;exact h4
  have h5:=condW_of h4 (w_not (w_lt w_lit (w_len_list (w_arg rfl))));rw[ak]at h5;refine Up λq=>?_;have q':(n:Int)<((ns.length:Nat):Int):=by omega
  first
   |(rw[Zs q']at h5;exact absurd h5 wp)
   |(simp at h5;omega)
 cases mS with
 |cons w1 w2 =>
  cases w2;cases w1 with
  |list ho hall=>exact⟨_,_,ns,rfl,rfl,ho,G3 ns _ hall,be⟩
def aaz(l:OpenLaw)(args:List WData):l.row.toRowW.claim.post args (.bool true) args=true :=
 postW_of (r:=l.row.toRowW) (X:=(true==true))
  (show WShape.has [] (.bool true) .bool=true by first|rfl|decide|simp[WShape.has,WShape.arms,WShape.armsAll])
  (show(WTm.eq .res (.lit (.bool true))).value [] { args:=args,res:=some (.bool true),after:=args }=some (.bool (true==true))from w_eq_bool (w_res rfl) w_lit) rfl
def Tv{n:Nat}{q:Program}{loose:Θ}{XP:(Str->Ψ)->Heap->Prop}{YP:World->Heap->Prop}{d:DefRec}
 (hn:l.most=some n)(kC:d.params.defaults=[])
 (call:∀(w:World)(s₀ s₁:Shared)(mg mb:Str->Ψ)(fa:Addr)(o:Obj)(pm cd bz:Value)(a:Addr)(vs:Δ)(ns:xy),
   Ground q loose [] XP w s₀ mg mb s₁.heap->YP w s₁.heap ->
   s₁.heap.get? fa=some o->o.data=.func (docDef d.name d.params d.body d.scope pm cd bz)->s₁.heap.CodeRec cd d.name->mg d.name=some (.ref fa) ->
   s₁.heap.get? a=some { cls:=.type "list",data:=.seq vs.toArray }->IntsAre vs ns->ns.length<=n->s₁.gens = #[] ->
   codeAny (model l.prog w) callerA (.call (.ref fa) ⟨[.ref a],[]⟩) (λr s'=>r=.ok (.ret (.bool true))/\OldK s₁.heap s'.heap/\s'.os=s₁.os/\AllBare s'.gens) s₁) :
  WalkO q loose XP YP l.row.toRowW d [] (λf vs=>PySem.call f vs):=by
 intro w s₀ s₁ mg mb G Y fa o pm cd bz dV kV ho hd aI hD f8 hg args h8 as eS hlay hrd mS hlo;obtain rfl:dV=.none:=Dflts.none hD kC;obtain rfl:kV=.none:=Dflts.noKw hD;obtain⟨a,vs,ns,rfl,rfl,iA,fy,be⟩:=aao hn eS mS;refine enter_call (codeAny_mono (call w s₀ s₁ mg mb fa o pm cd bz a vs ns G Y ho (fd_plain hd) aI f8 iA fy be hg) λr s' hq=>?_);obtain⟨rfl,h2,h3,h4⟩:=hq;exact⟨.inl ⟨.bool true,.bool true,[],rfl,λ_=>rfl,.bool true,aaz l _,λ_=>⟨List.Pairwise.nil,λ_ hm=>(nomatch hm)⟩⟩,h2,h3,h4⟩
end Att
namespace L2
open PySem PySem.Spec PyProof.Rows
theorem El:∀{vs:Δ}{ns:xy},IntsAre vs ns->z5 (ns.map V.int) vs
 |_,_,.nil=>.nil
 |_,_,.cons n t h=>.cons ⟨t,rfl⟩ (El h)
def Only(H:Hp):Prop:=∀b,H b=none\/∃o xs,H b=some (.frz o (.lst xs))
def abF{P:Program}{w:World}{K:Frag}{mg mb:Str->Ψ}{CX:CXT}{k:Nat}{fa a:Addr}{fd:FuncData}{x:Str}{sp:Sp}{s₁:Shared}{vs:Δ}{ns:xy}
 (KX:K.In s₁.heap)(eM:s₁.heap.Ns mainGlobals mg)(hb:s₁.heap.Ns builtinsNs mb)(hbb:∀x:Str,x≠"__name__"->mb x=bootBuiltins x)(nX:s₁.heap.NoLimit)(hg:s₁.gens = #[])
 (ha:s₁.heap.get? a=some { cls:=.type "list",data:=.seq vs.toArray })(hi:IntsAre vs ns)(hl:ns.length<=sizeLine)(hr:dH k callerA)
 (F:∀base:Heap,K.In base->base.Ns mainGlobals mg->d9 P w K mg base CX k fa fd [x] sp)(kG:∀(s:Shared)(u:Value),BindsTo s fd ⟨[u],[]⟩ [(x,u)])
 (eW:∀H:Hp,Only H->SqL K H a (ns.map V.int)->sp [.ref a] H (λv _=>v=.bl true) λ_ _ _=>False)
 (pe:∀H e s',CX [] H s₁ (λ_ _ _=>False) e s'->False) :
  codeAny (model P w) callerA (.call (.ref fa) ⟨[.ref a],[]⟩) (λr s'=>r=.ok (.ret (.bool true))/\OldK s₁.heap s'.heap/\s'.os=s₁.os/\AllBare s'.gens) s₁:=by
 have rv:=El hi;have mE:=hi.length

 have core:∀H:Hp,Only H->SqL K H a (ns.map V.int)->HOk P w H s₁.heap->(∀b,H b≠none->b=a)->(H a≠none->K.lookup a=none) ->
   codeAny (model P w) callerA (.call (.ref fa) ⟨[.ref a],[]⟩) (λr s'=>r=.ok (.ret (.bool true))/\OldK s₁.heap s'.heap/\s'.os=s₁.os/\AllBare s'.gens) s₁:=by
  intro H hO hS hok hA hK;have eQ:∀{b:Addr}{o:Obj},s₁.heap.get? b=some o->H b=none->(Sq s₁.heap H).get? b=some o:=λe n=>acY e n;have j2:∀{b:Addr}{o:Obj}{es:Array DictEntry}{ep:Nat},s₁.heap.get? b=some o->o.data=.dict es ep->H b=none:=λ{b o es ep}e d=>by
   cases q:H b with
   |none=>rfl
   |some u =>
    have e':b=a:=hA b (by rw[q];simp);subst e';rw[ha]at e;cases e;have d':Data.seq vs.toArray _=Data.dict es ep:=d;cases d'
  have kR:∀{b:Addr}{m:Str->Ψ},s₁.heap.Ns b m->(Sq s₁.heap H).Ns b m:=λ{b m}⟨o,es,ep,e,d,r⟩=>⟨o,es,ep,eQ e (j2 e d),d,r⟩;have hKb:K.In (Sq s₁.heap H):=λb o e=>eQ (KX b o e) (by
   cases q:H b with
   |none=>rfl
   |some u =>
    have e':b=a:=hA b (by rw[q];simp);subst e';rw[hK (by rw[q];simp)]at e;cases e)
  have hM:Mod K mg (Sq s₁.heap H):=⟨hKb,kR eM,⟨mb,kR hb,hbb⟩,let⟨mc,h1,h2⟩:=nX;⟨mc,kR h1,h2⟩⟩;have e0:Va P w K mg (Sq s₁.heap H) callerA [] s₁ H:=⟨rfl,hM,λb o e=>afx e,WG (ZM _ _),trivial,λb hb=>absurd (show b∈([] : Φ)from hb) wr,hok,.of_eq hg⟩;refine codeAny_mono ((F _ hKb (kR eM)).run callerA [] s₁ H ⟨[.ref a],[]⟩ [.ref a] [.ref a] _ _ hr e0 (kG s₁ (.ref a)) (.cons rfl .nil) (eW H hO hS)) λr s' h=>?_;cases r with
  |error e=>exact(pe H e s' h).elim
  |ok fl =>
   cases fl with
   |next=>exact False.elim h
   |brk=>exact False.elim h
   |cont=>exact False.elim h
   |ret u =>
    obtain⟨v,H',os,bare,un,hok',r',q⟩:=h;have q':v=.bl true:=q;subst q';obtain rfl:u=Value.bool true:=r';refine⟨rfl,OldK.of_keep λb o e=>?_,os,bare⟩;cases q:H b with
    |none=>exact un.keep b o e q (by intro z;exact absurd (show b∈([] : Φ)from z) wr) wr
    |some u =>
     rcases hO b with z|⟨ob,xs,z⟩
     .rw[q]at z;cases z
     .have z2:=un.frzs b ob _ z;obtain⟨e1,_⟩:=hok b _ z;obtain⟨e2,_⟩:=hok' b _ z2;rw[e]at e1;cases e1;exact e2
 cases hk:K.lookup a with
 |some o =>

  have e:=KX a o hk;rw[ha]at e;cases e;refine core (λ_=>none) (λ_=>.inl rfl) (.inr ⟨_,vs.toArray,_,hk,rfl,rfl,rfl,by rw[aX,mE];exact hl,by simpa using rv⟩) (λb u z=>by have z':(none:Option HO)=some u:=z;cases z') (λb z=>absurd rfl z) λz=>absurd rfl z
 |none =>
  refine core (λb=>if b=a then some (.frz { cls:=.type "list",data:=.seq vs.toArray } (.lst (ns.map V.int)))else none) (λb=>?_) (.inl (.inr ⟨{ cls:=.type "list",data:=.seq vs.toArray },ZY rfl⟩)) (λb u z=>?_) (λb z=>?_) λ_=>hk
  .by_cases hb:b=a
   .exact .inr ⟨_,_,ZY hb⟩
   .exact .inl (ZZ hb)
  .by_cases hb:b=a
   .have z':=(ZY hb).symm.trans z;cases z';subst hb;exact⟨ha,by rw[ak];exact hl,vs,_,rv,ha⟩
   .have z':=(ZZ hb).symm.trans z;cases z'
  .by_cases hb:b=a
   .exact hb
   .exact absurd (ZZ hb) z
abbrev KOf{K:Frag}{h:Heap}(_:K.In h):Frag:=K
def Yx{l:PySem.W.OpenLaw}{n k:Nat}{q:Program}{loose:Θ}{XP:(Str->Ψ)->Heap->Prop}{YP:World->Heap->Prop}{d:DefRec}{K:Params->Frag}{CX:World->CXT}{sp:World->Sp}{x:Str}
 (hn:l.most=some n)(i5:n<=sizeLine)(kC:d.params.defaults=[])(hr:dH k callerA)
 (hY:∀(w:World)(h:Heap),YP w h->(K w.params).In h)
 (F:∀(w:World)(mg:Str->Ψ)(fa:Addr)(h:Heap),(K w.params).In h->h.Ns mainGlobals mg->mg d.name=some (.ref fa) ->
   ∃fd:FuncData,(∀(s:Shared)(u:Value),BindsTo s fd ⟨[u],[]⟩ [(x,u)]) /\
    ∀base:Heap,(K w.params).In base->base.Ns mainGlobals mg->d9 l.prog w (K w.params) mg base (CX w) k fa fd [x] (sp w))
 (eW:∀(w:World)(H:Hp)(a:Addr)(ns:xy),ns.length<=n->Only H->SqL (K w.params) H a (ns.map V.int)->sp w [.ref a] H (λv _=>v=.bl true) λ_ _ _=>False)
 (pe:∀(w:World)(H:Hp)(s:Shared)(e:Value)(s':Shared),CX w [] H s (λ_ _ _=>False) e s'->False) :
  PySem.W.WalkO q loose XP YP l.row.toRowW d [] (λf vs=>PySem.call f vs):=by
 refine Att.Tv hn kC λw s₀ s₁ mg mb fa o pm cd bz a vs ns G Y ho hd aI f8 iA fy be hg=>?_;have KX:=hY w _ Y;obtain⟨fd,hb,hF⟩:=F w mg fa _ KX G.T.g f8;exact abF KX G.T.g G.T.b G.T.builtins G.T.nolimit hg iA fy (aL be i5) hr hF hb (λH hO hS=>eW w H a ns be hO hS) λH e s'=>pe w H s₁ e s'
end L2

namespace L2
open PySem PySem.Spec PyProof.Rows
abbrev CX0:CXT:=λ_ _ _ _ _ _=>False
abbrev E0:XK:=λ_ _ _=>False
def Jg{X:Cx} : Passes CX0 X E0:=λ_ _ _ _ _ _ _ h=>h.elim
structure Fun(K:Frag)(x ah:Str)(st:Stmt)(f:Addr)(fd:FuncData):Prop where
 ex:∃(oc:Value)(od:Ω)(kV bz pm:Value)(an:Ω)(ai ct:Value)(dy:Array (Ψ)),
  fd=PySem.W.fnOf x ah (jN st) (fJ st) (bG st) .none kV bz pm an ai ct/\K.lookup f=some ⟨oc,od,.func fd,dy⟩/\codeIn K ai ah=true
 kp:keepIn K (.ref f)=true
variable{P:Program}{w:World}{K:Frag}{mg:Str->Ψ}{base:Heap}{x ah:Str}{st:Stmt}{f:Addr}{fd:FuncData}{N ps:Θ}{sp:Sp}{oc:Value}{dy:Array (Ψ)}{A:Around}
def Fun.ok{k:Nat}(F:Fun K x ah st f fd)(S:bK N ps (bG st))(len:∀vs H Q E,sp vs H Q E->vs.length=ps.length)
 (bg:∀(ai:Value)(A:Around)(outer:xl)(s:Shared)(H:Hp)(vs:Ε)(Q:VK)(E:XK),dH k (A.deeper (envOfC ah (bG st) s.heap.objs.size f ai))->sp vs H Q E ->
   ∃t,PSs (Dg CX0 P w K mg base N ah (bG st) f ai A outer s H E).nox (fJ st) t/\t { nx:=λ_ H'=>Q .non H',rt:=Q } (start N vs) H):d9 P w K mg base CX0 (k+1) f fd ps sp:=by
 obtain⟨oc,od,kV,bz,pm,an,ai,ct,dy,rfl,lk,aI⟩:=F.ex;refine agz lk aI S len λA outer s H vs Q E hr eW=>?_;obtain⟨t,h,q⟩:=bg ai A outer s H vs Q E hr eW;exact⟨t,h.nox,q⟩
def abB{od an:Ω}{kV bz pm ai ct:Value}(l:K.lookup f=some ⟨oc,od,.func (PySem.W.fnOf x ah (jN st) (fJ st) (bG st) .none kV bz pm an ai ct),dy⟩)
 (c:codeIn K ai ah=true)(k:keepIn K (.ref f)=true):Fun K x ah st f (PySem.W.fnOf x ah (jN st) (fJ st) (bG st) .none kV bz pm an ai ct):=⟨⟨oc,od,kV,bz,pm,an,ai,ct,dy,rfl,l,c⟩,k⟩
def vG{k:Nat}(hr:dH k A):A.units+1<cLine:=Y3 (Nat.add_le_add_left (by decide:1<=64) _) hr.units
def o7(sc:Scope)(x:Str):Bool:=(sc.names.lookup x).any λk=>k == .local || k == .cell || k == .free
def ai7{sc:Scope}(h:o7 sc x=true):Vis sc x:=by
 unfold o7 at h;unfold Vis;cases e:sc.names.lookup x with
 |none=>rw[e]at h;cases h
 |some k=>rw[e]at h;cases k<;>first|exact .inl rfl|exact .inr (.inl rfl)|exact .inr (.inr rfl)|cases h
variable{X:Cx}{pos:Pos}{H H':Hp}{a b:Addr}{xs:Ε}{prog:Program}{E:Β}{s:Shared}{Q:Unit->Shared->Prop}{bi es:ze}{t:String}{e:Expr}{ta:TE}{h:Heap}{fl:Value}{oe o:Obj}{vs:xi}
def pv(i:Nat)(hN:X.N[i]?=some x:=by rfl)(hv:o7 X.env.scope x=true:=by rfl)(hd:qk x:=by decide)
 (aI:qf x:=by decide):PE X (.Name x pos) (aiV i):=ag8 hN (ai7 hv) hd aI
def aoj{A B:Prop}(h:B):if false=true then A else B:=by
 rwa[ZZ bh]
def aps{A B:Prop}(h:A):if true=true then A else B:=by
 rwa[ZY rfl]
def z0(H H':Hp):Prop:=∀b o,H b=some o->H' b=some o
def z0.refl(H:Hp):z0 H H:=λ_ _ h=>h
def z0.trans{H1 H2:Hp}(a:z0 H H1)(b:z0 H1 H2):z0 H H2:=λc o h=>b c o (a c o h)
def z0.free(e:z0 H H'){l:Addr}(h:H' l=Option.none):H l=Option.none:=by
 cases q:H l with
 |none=>rfl
 |some o =>
  rw[e l o q]at h;cases h
def z0.seq(e:z0 H H')(h:SqL K H a xs):SqL K H' a xs:=by
 rcases h with(h|⟨o,h⟩)|h
 .exact .inl (.inl (e _ _ h))
 .exact .inl (.inr ⟨o,e _ _ h⟩)
 .exact .inr h
def Bd(i:Int):Prop:=i.natAbs<2^8000
def Bd.log2{i:Int}(h:Bd i):i.natAbs.log2<8000:=by
 by_cases h0:i.natAbs=0
 .rw[h0,Nat.log2_zero];exact Tk _
 .exact(Nat.log2_lt h0).mpr h
def Bd.bits{i:Int}(h:Bd i):Builtin.Int.intBits i<=2^20:=by
 have e:(2:Nat)^20=1048576:=by decide
 have:=h.log2;unfold Builtin.Int.intBits;split
 .exact aZ _
 .lia
def aeA:OpR X (binaryOp .Mult) (rI (λi j=>Bd i/\Bd j) λi j=>.int (i*j)):=opI λ_ _ _ _ _ _ _ hc q=>mul_int q (.of_bits hc.1.bits hc.2.bits)
def adA:OpR X (binaryOp .FloorDiv) (rI (λ_ j=>j≠0/\Bd j) λi j=>.int (i.fdiv j)):=opI λ_ _ _ _ _ _ _ hc q=>floordiv_int hc.1 q (.inl (PyProof.noPylong_of_log2 (by have:=hc.2.log2;exact Th this wp)))
def S7:ig X (.builtin "isinstance") (λxs H Q=>∃x c cv t b,xs=[x,c]/\((∃T,c=.ty T/\cv=Value.type T)\/∃C,c=.ref C/\cv=Value.ref C)/\Ed X.K H x t/\kitOne X.K t cv=some b/\Q (.bl b) H):=by
 intro aa s σ H xs us Q I r h;obtain⟨x,c,cv,t,b,rfl,rc,ty,e,q⟩:=h;obtain⟨u,v,rfl,ru,rv⟩:=r.two;have e2:v=cv:=by
  rcases rc with⟨T,rfl,rfl⟩|⟨T,rfl,rfl⟩
  .exact rv
  .exact rv
 subst e2;exact aat I ru ty e λtk=>⟨.bl b,H,I.tok _,rfl,q⟩
def Uk:ig X (.builtin "sorted") (λxs H Q=>∃l ns,xs=[.ref l]/\SqL X.K H l (ns.map V.int)/\ns.length<64/\∀(ms:xy)p,H p=none->ms.Perm ns->ms.Pairwise (· <= ·)->Q (.ref p) (upd H p (.lst (ms.map V.int)))):=by
 intro aa s σ H xs us Q I r h;obtain⟨l,ns,rfl,hl,h64,q⟩:=h;obtain⟨u,rfl,ru⟩:=r.one;cases ru;obtain⟨its,rv,p,hz⟩:=I.list hl;have hI:=intsAre_of rv;have be:its.length=ns.length:=by have:=rv.length;simpa using this.symm
 refine sorted_ints (vs:=its) p.isList hI (Y3 (WG be) h64) λout ns' a1 a2 a3=>?_;obtain⟨e,he⟩:=sortedAll_at s.heap its out;have dL:H (s.heap.objs.size+1)=none:=I.hok.fresh (Xs _);refine⟨.ref _,_,I.laid (a:=s.heap.objs.size+1) (o:=.lst (ns'.map V.int)) (t':=s.toks) (λb u e=>sortedAll_old e) (Xs _) ?_,rfl,q ns' _ dL a2 a3⟩;refine⟨?_,out.toList,e,El a1,he⟩;rw[ak,a2.length_eq];rw[ak]at hz;exact hz
theorem NQ{it t:Addr}{items:xi}(fS:t≠it):∀(n i:Nat)(s:Shared)(Q:Δ->Shared->Prop),s.heap.IsListIter it t i->PlainL s.heap t items->i+n<=items.size ->
  (∀h',h'.IsListIter it t (i+n)->Heap.SameBut it s.heap h'->Q ((items.toList.drop i).take n) { s with heap:=h' })->wpAny (model prog w) A (draw (.ref it) n) Q E s
 |0,i,s,Q,hit,_,_,hQ=>by
  show wpAny _ _ (pure []) Q E s;exact ZT (by simpa using hQ s.heap hit (Heap.SameBut.refl ..))
 |n+1,i,s,Q,hit,ht,hle,hQ=>by
  have eT:i<items.size:=by lia
  show wpAny _ _ (pyNext (.ref it) >>= _) Q E s;refine ZU (wpAny_pyNext_list_item hit ht.isList (x:=items[i]) (by simp[eT]) λh₁ iF ko=>?_);have m4:PlainL h₁ t items:=by
   obtain⟨o,k,e,r⟩:=ht;exact⟨o,k,(ko.2 t fS).trans e,r⟩
  refine ZU (wpAny_holding (NQ fS n (i+1) _ _ iF m4 wo λh₂ n5 hs₂=>ZT ?_));have hd:items.toList.drop i=items[i]::items.toList.drop (i+1):=by simp[Qr,eT]
  have:=hQ h₂ (by rwa[show i+(n+1)=i+1+n by lia]) (ko.trans hs₂);rw[hd,List.take_succ_cons]at this;exact this
def Fi{t:Addr}{items:xi}{Q:Δ->Shared->Prop}(hh:A.handled=none)(ht:PlainL s.heap t items)
 (hQ:∀h',Heap.ExtBut s.heap.objs.size s.heap h'->Q items.toList { s with heap:=h' }):wpAny (model prog w) A (unpackItems (.ref t) items.size none) Q E s:=by
 have eT:t≠s.heap.objs.size:=by obtain⟨o,_,ho,_⟩:=ht;exact aQ (aK ho)
 unfold unpackItems;refine ZU ?_
 .unfold notIterableAtAll;refine ZU (wpAny_specialOf ht.isList.typeIs slot_list_iter.lookup ?_);refine ZT ?_;simp only[XW,if_false];refine ZU (wpAny_holding (wpAny_pyIter_list ht.isList ?_));have ht0:PlainL (s.heap.push { cls:=.type "list_iterator",data:=.fields #[.ref t,.int 0 0] }) t items:=by
   obtain⟨o,k,e,r⟩:=ht;exact⟨o,k,aH _ e,r⟩
  refine ZU (wpAny_holding (NQ eT items.size 0 _ _ ⟨_,aW _ rfl,rfl,rfl⟩ ht0 wo λh₁ iF ko=>?_));have hall:List.take items.size (List.drop 0 items.toList)=items.toList:=by
   rw[List.drop_zero];exact QY wr
  rw[hall];rw[ZZ wr];have m4:PlainL h₁ t items:=by
   obtain⟨o,k,e,r⟩:=ht0;exact⟨o,k,(ko.2 t eT).trans e,r⟩
  refine ZU (wpAny_holding (wpAny_pyNext_list_end hh iF m4.isList wr λh₂ he₂=>?_));simp only[Option.isSome_none,XW,if_false];refine ZT (hQ h₂ λb o hb e=>he₂ b o hb (ko.extBut b o hb (aH _ e)))
def D_{env:Env}{x1}{t:Addr}{items:xi}(hh:A.handled=none)(ht:PlainL s.heap t items)
 (hn:(assignEach bi env).length=items.size)(kq:(assignEach bi env).findIdx? (·.1)=none)
 (h:∀h',Heap.ExtBut s.heap.objs.size s.heap h'->wpAny (model prog w) A (assignInOrder ((assignEach bi env).map (·.2)) items.toList) Q E { s with heap:=h' }) :
  wpAny (model prog w) A (assign (.Tuple bi x1 pos) env (.ref t)) Q E s:=by
 rw[assign_Tuple];refine ZU (wpAny_standAt ?_);unfold unpack;rw[hn,kq];exact ZU (wpAny_holding (Fi hh ht h))
def alz(K:Frag)(n:Nat)(t:TGs):TG:=λv σ H Q=>∃a xs,v=.ref a/\SqL K H a xs/\xs.length=n/\t xs σ H Q
def afh{k:Nat}{t:TGs}{n:Nat}(hc:X.calm=true)(h:PGs X es t)
 (hn:(assignEach es X.env).length=n:=by rfl)(bu:zg X es:=by rfl):PG X (.Tuple es k pos) (alz X.K n t):=by
 intro aa s σ H v u Q I r hw;obtain⟨a,xs,e1,hq,hl,hw⟩:=hw;subst e1;cases r;obtain⟨its,rv,ht,hz⟩:=I.list hq;refine D_ (I.ok.hd hc) ht (by simp[hn,<- hl,rv.length]) bu λh' hx=>?_;have I1:Inv X aa σ H { s with heap:=h' }:=I.kept (t':=s.toks) λb o e=>hx b o (aQ (aK e)) e;exact h aa _ σ H xs _ Q I1 (by simpa using rv) hw
def z0.upd{H:Hp}{p:Addr}{o:HO}(hp:H p=none):z0 H (upd H p o):=λb u e=>by
 rw[bU (lH e hp)];exact e
def IxR.imp{r r':R2}(h:IxR X r)(i:∀x y H Q,r' x y H Q->r x y H Q):IxR X r':=by
 intro b pos aa s σ H x y v u Q I rx ry q hs;exact h _ _ _ _ _ _ _ _ _ _ _ I rx ry (i _ _ _ _ q) hs
def al4{α:Type}{x:α}{xs:List α} : atI (x::xs) 0=some x:=aev (j:=0) rfl
def ig.imp{f:Value}{r r':Ε->Hp->VK->Prop}(h:ig X f r)(i:∀xs H Q,r' xs H Q->r xs H Q):ig X f r':=λaa s σ H xs us Q I rx q=>h aa s σ H xs us Q I rx (i _ _ _ q)
def tyS(H:Hp):V->Option String
 |.non=>some "NoneType"
 |.bl _=>some "bool"
 |.int _=>some "int"
 |.str _=>some "str"
 |.ref a=>match H a with
  |some (.lst _)=>some "list"
  |some (.tup _)=>some "tuple"
  |some (.dK _)=>some "dict"
  |_=>none
 |_=>none
def ahN{x:V}(h:tyS H x=some t):Ed K H x (.type t):=by
 cases x with
 |non=>cases h;exact .non
 |bl=>cases h;exact .bl _
 |int=>cases h;exact .int _
 |str=>cases h;exact .str _
 |byt=>cases h
 |flt=>cases h
 |ty=>cases h
 |ref a =>
  have h:(match H a with
   |some (.lst _)=>some "list"
   |some (.tup _)=>some "tuple"
   |some (.dK _)=>some "dict"
   |_=>none)=some t:=h
  split at h
  .cases h;exact .lst (by assumption)
  .cases h;exact .tup (by assumption)
  .cases h;exact .dK (by assumption)
  .cases h
def R_(t T:String):Bool:=(t==T) || (t=="bool" && T=="int")
def Y9{T:String}(ht:t∈["NoneType","bool","int","str","list","tuple","dict"])(hT:T∈["bool","int","str","list","tuple","dict"]):kitOne K (.type t) (.type T)=some (R_ t T):=by
 simp only[YU,VY,or_false]at ht hT;rcases ht with rfl|rfl|rfl|rfl|rfl|rfl|rfl<;>rcases hT with rfl|rfl|rfl|rfl|rfl|rfl<;>with_unfolding_all rfl
def ah5{x:V}(h:tyS H x=some t):t∈["NoneType","bool","int","str","list","tuple","dict"]:=by
 cases x with
 |non=>cases h;decide
 |bl=>cases h;decide
 |int=>cases h;decide
 |str=>cases h;decide
 |byt=>cases h
 |flt=>cases h
 |ty=>cases h
 |ref a =>
  have h:(match H a with
   |some (.lst _)=>some "list"
   |some (.tup _)=>some "tuple"
   |some (.dK _)=>some "dict"
   |_=>none)=some t:=h
  split at h<;>cases h<;>decide
def an4:Ε->Hp->VK->Prop:=λxs H Q=>∃x T t,xs=[x,.ty T]/\T∈["bool","int","str","list","tuple","dict"]/\tyS H x=some t/\Q (.bl (R_ t T)) H
def wW:ig X (.builtin "isinstance") an4:=S7.imp λxs H Q hP=>by obtain⟨x,T,t,a,b,c,d⟩:=hP;exact⟨x,.ty T,.type T,.type t,_,a,.inl ⟨T,rfl,rfl⟩,ahN c,Y9 (ah5 c) b,d⟩
def PG.imp{t t':TG}(h:PG X e t)(i:∀v σ H Q,t' v σ H Q->t v σ H Q):PG X e t':=λaa s σ H v u Q I r q=>h aa s σ H v u Q I r (i _ _ _ _ q)
def am0:Ε->Hp->VK->Prop:=λxs H Q=>∃l ns,xs=[.ref l]/\H l=some (.lst (ns.map V.int))/\ns.length<64/\∀(ms:xy)p,H p=none->ms.Perm ns->ms.Pairwise (· <= ·)->Q (.ref p) (upd H p (.lst (ms.map V.int)))
def Zn:ig X (.builtin "sorted") am0:=Uk.imp λxs H Q hP=>by obtain⟨l,ns,a,b,c⟩:=hP;exact⟨l,ns,a,.of b,c⟩
def akQ:V->xS
 |.bl b=>some b
 |.int i=>some (i != 0)
 |.non=>some false
 |_=>none
def ad8{x:V}{k:Bool}(h:akQ x=some k):ahV K x H k:=by
 cases x<;>cases h<;>rfl
def ao1(ta:TE):TT:=λσ H Q=>ta σ H λx H'=>∃k,akQ x=some k/\Q k H'
def RB{a:Expr}(ha:PE X a ta)(he:∀b5,isTrue a X.env b5=(do let v <- b5;standAt a.pos;holding [v] (truthy v))):PT X a (ao1 ta):=by
 intro aa s σ H Q I h;exact isTrue_plain (thn (ha aa s σ H _ I h) λv s1 hP=>by obtain⟨x,H1,I1,r1,k,e,q1⟩:=hP;exact acP aa s1 σ H1 x v Q I1 r1 ⟨k,ad8 e,q1⟩) (he _)
def OkF(P:Program)(w:World)(K:Frag)(mg:Str->Ψ)(base:Heap)(k:Nat)(x:Str)(ps:Θ)(sp:Sp):Prop :=
 ∃f fd,d9 P w K mg base CX0 k f fd ps sp/\Binds K fd ps []/\mg x=some (.ref f)/\keepIn K (.ref f)=true
def cL(K:Frag)(mg:Str->Ψ)(x:Str)(st:Stmt)(ps:Θ):Prop :=
 ∃f fd,Fun K x x st f fd/\(∀us:Δ,us.length=ps.length->bindArgs fd ⟨us,[]⟩=pure (ps.zip us))/\mg x=some (.ref f)
def cL.ok{k:Nat}(h:cL K mg x st ps)
 (hf:∀f fd,Fun K x x st f fd->d9 P w K mg base CX0 k f fd ps sp):OkF P w K mg base k x ps sp:=by
 obtain⟨f,fd,a,b,c⟩:=h;exact⟨f,fd,hf f fd a,.all b,c,a.kp⟩
def af4{od an:Ω}{kV bz pm ai ct:Value}(X:K.In h)(G:h.Ns mainGlobals mg)
 (a:nsIn K mainGlobals x=some (some (.ref f)))(l:K.lookup f=some ⟨oc,od,.func (PySem.W.fnOf x x (jN st) (fJ st) (bG st) .none kV bz pm an ai ct),dy⟩)
 (c:codeIn K ai x=true)(k:keepIn K (.ref f)=true)
 (hb:∀(kV bz pm:Value)(an:Ω)(ai ct:Value)(us:Δ),us.length=ps.length->bindArgs (PySem.W.fnOf x x (jN st) (fJ st) (bG st) .none kV bz pm an ai ct) ⟨us,[]⟩=pure (ps.zip us)):cL K mg x st ps :=
 ⟨f,_,abB l c k,hb kV bz pm an ai ct,mg_of X G a⟩
def Yy(K:Frag):Sp:=λvs H Q _=>∃(a:Addr)(ns:xy),vs=[.ref a]/\SqL K H a (ns.map V.int)/\ns.length<=63/\Only H/\∀H',Q (.bl true) H'
def ako{l:PySem.W.OpenLaw}{k:Nat}{q:Program}{loose:Θ}{XP:(Str->Ψ)->Heap->Prop}{YP:World->Heap->Prop}{d:DefRec}{K:Params->Frag}(hn:l.most=some 63)(kC:d.params.defaults=[])
 (hr:dH k callerA)(hY:∀(w:World)(h:Heap),YP w h->(K w.params).In h)
 (F:∀(w:World)(mg:Str->Ψ)(fa:Addr)(h:Heap),(K w.params).In h->h.Ns mainGlobals mg->mg d.name=some (.ref fa) ->
   ∃st,cL (K w.params) mg d.name st [x]/\∀(base:Heap)(f:Addr)(fd:FuncData),Fun (K w.params) d.name d.name st f fd->d9 l.prog w (K w.params) mg base CX0 k f fd [x] (Yy (K w.params))) :
  PySem.W.WalkO q loose XP YP l.row.toRowW d [] (λf vs=>PySem.call f vs):=by
 refine L2.Yx (n:=63) (k:=k) (x:=x) (CX:=λ_=>CX0) (sp:=λw=>Yy (K w.params)) hn wp kC hr hY (λw mg fa h KX G f8=>?_) (λ_ _ a ns hl hO hS=>⟨a,ns,rfl,hS,hl,hO,λ_=>rfl⟩) λ_ _ _ _ _ z=>z;obtain⟨st,⟨f,fd,hf,hb,hm⟩,ok⟩:=F w mg fa h KX G f8;rw[hm]at f8;have e:f=fa:=by injection f8 with z;injection z
 subst e;exact⟨fd,λs u=>.of_eq (hb [u] rfl),λbase _ _=>ok base f fd hf⟩
section
variable{X:Cx}{p pos:Pos}{e:Expr}{es:ze}{t:TA}{x:Str}{k:Nat}{ps:Θ}{sp:Sp}
def Wk(sp:Sp)(t:TA):TE:=λσ H Q=>t σ H λvs H1=>sp vs H1 Q E0
def K5(G:OkF X.prog X.w X.K X.mg X.base k x ps sp)(hr:dH k X.A)(hg:Gl X x)(ha:PA X (e::es) t)(bo:qk x:=by decide)
 (he:qo X e es:=by rfl)(aE:qh X pos es:=by rfl):PE X (.Call (.Name x p) (e::es) [] pos) (Wk sp t):=by
 obtain⟨f,fd,F,b,hm,kp⟩:=G;intro aa s σ H Q I h;refine afq F hr hg hm kp b .nil Jg ha bo he aE aa s σ H Q I ?_;show t σ H λvs H1=>sp (vs++[]) H1 Q E0;simp only[List.append_nil];exact h
end
def ag3(a:Int):(if a<0 then -a else a)=((a.natAbs:Nat):Int):=by split<;>omega
def tU(a:Int){b:Int}(h:0<b):Int.fdiv a b=a/b:=Q3 a (XY h)
def TrD(h base:Heap)(e:Addr)(cls:Value)(d:Ω)(fl:Value):Prop :=
 ∃oe vs T oT ts,h.get? e=some oe/\(oe.cls=cls/\oe.dict=d)/\oe.data=.fields vs/\vs[1]?=some (.ref T)/\base.get? T=none/\T≠e/\h.get? T=some oT/\oT.data=.fields ts/\ts[3]?=some fl
def vM(base:Heap)(l:xl)(e:Addr)(cls:Value)(d:Ω)(fl:Value)(h:Heap):Prop :=
 base.StaysIn h/\base.get? e=none/\h.FunFrames base l/\TrD h base e cls d fl
def vM.first{l:xl}{e:Addr}{cls:Value}{d:Ω}(x:vM base l e cls d fl h):∃oe vs,h.get? e=some oe/\oe.cls=cls/\oe.dict=d/\oe.data=.fields vs :=
 by obtain⟨_,_,_,oe,vs,_,_,_,he,hc,hd,_⟩:=x;exact⟨oe,vs,he,hc.1,hc.2,hd⟩
section
variable{M:Model}{A:Around}{E:Β}{s:Shared}{base:Heap}{env:Env}{outer l:xl}{L e:Addr}{cls:Value}{d:Ω}{Q:Unit->Shared->Prop}
def Ii(o:Obj)(f:xi->xi):(Obj.mapFields f o).dict=o.dict:=by
 unfold Obj.mapFields;split<;>rfl
def aaX{head:Value}{gy:Bool}(dL:A.frames=some (env::outer))(hl:s.heap.FunFrames base (env::outer))(hf:env.frame=some L)(he:s.heap.get? e=some oe)
 (gc:base.StaysIn s.heap)(gf:base.get? e=none)(hd:oe.data=.fields vs)(hsz:1<vs.size)(h:∀h',vM base (env::outer) e oe.cls oe.dict (rawInt L) h'->s.heap.UpToSlots h'->Q () { s with heap:=h' }) :
  wpAny M A (do let a <- frameOf env;let pl <- entryPlaceOf L gy;let b <- EntryCells.newEntry head a .none (rawInt L) .none pl;setField (.ref e) 1 b) Q E s:=by
 have nofr:e∉(env::outer).filterMap (·.frame):=λz=>by
  obtain⟨_,o,ho,hnf⟩:=hl.mem z;rw[he]at ho;cases ho;exact hnf vs hd
 refine ZU (wpAny_frameOf_fun dL hl hf λg hg=>ZU (wpAny_entryPlaceOf λpl aE=>?_));unfold EntryCells.newEntry newFields;refine ZU (wpAny_newObj_type ?_ (aE.sizeOk5 _ _ _ _ _));have eg:g.get? e=some oe:=(hg.2.1 e nofr).trans he;have kg:base.StaysIn g:=λb o q=>(hg.2.1 b λz=>by rw[(hl.mem z).1]at q;cases q).trans (gc b o q);generalize di:({ cls:=.type "traceback",dict:=none,data:=.fields ([head,.ref L,.none,rawInt L,.none]++(if pl.isEmpty then List.replicate 6 Value.none else pl)).toArray } : Obj)=ot;have ik:g.objs.size≠e:=VV (aK eg);have e2:(g.push ot).get? e=some oe:=aH _ eg;refine wpAny_setField e2 hd hsz (h _ ?_ ?_)
 all_goals
  have d3:=Obj.data_mapFields hd (·.setIfInBounds 1 (Value.ref g.objs.size));have e3:=Heap.get?_update_self (Obj.mapFields (·.setIfInBounds 1 (Value.ref g.objs.size))) e2 (Obj.isFreed_of_fields d3);have keep:∀b o,b≠e->g.get? b=some o->((g.push ot).update e (Obj.mapFields (·.setIfInBounds 1 (Value.ref g.objs.size)))).get? b=some o:=λb o nb q=>by
   rw[Heap.get?_update_other _ _ (Ne.symm nb)];exact aH _ q
  have nr:∀b o,s.heap.get? b=some o->(∀ws,o.data≠.fields ws)->b≠e:=λb o q nf z=>by
   rw[z,he]at q;cases q;exact nf vs hd
 .refine⟨λb o q=>keep b o (λz=>by rw[z,gf]at q;cases q) (kg b o q),gf,hl.of_keeps λb o q nf=>?_,?_⟩
  .obtain⟨sl,z⟩:=hg.2.2 b o q;exact⟨_,keep b _ (nr b o q nf) z,rfl⟩
  .refine⟨_,_,g.objs.size,ot,_,e3,⟨Obj.cls_mapFields _ _,Ii _ _⟩,d3,by simp[hsz],kg.fresh,ik,?_,by rw[<- di],?_⟩
   .rw[Heap.get?_update_other _ _ (Ne.symm ik)];exact aW g (by rw[<- di];rfl)
   .first|(simp;done)|(rcases aE with rfl|⟨_,_,_,_,_,_,_,rfl⟩<;>simp)
 .intro b o q nf;obtain⟨sl,z⟩:=hg.2.2 b o q;exact⟨sl,keep b _ (nr b o q nf) z⟩
def Xf(dL:A.frames=some (env::outer))(hl:s.heap.FunFrames base (env::outer))(hf:env.frame=some L)(he:s.heap.get? e=some oe)
 (gc:base.StaysIn s.heap)(gf:base.get? e=none)(hd:oe.data=.fields vs)(h1:vs[1]?=some .none)(h:∀h',vM base (env::outer) e oe.cls oe.dict (rawInt L) h'->s.heap.UpToSlots h'->Q () { s with heap:=h' }) :
  wpAny M A (noteFrame (.ref e) env) Q E s:=by
 unfold noteFrame;simp only[hf];refine ZU (wpAny_field he hd h1 ?_);rw[ZZ wp];exact aaX dL hl hf he gc gf hd (Array.getElem?_eq_some_iff.mp h1).1 h
def Nu(dL:A.frames=some (env::outer))(hf:env.frame=some L)(x:vM base (env::outer) e cls d .none s.heap)
 (h:∀h',vM base (env::outer) e cls d (rawInt L) h'->s.heap.UpToSlots h'->Q () { s with heap:=h' }):wpAny M A (noteFrame (.ref e) env) Q E s:=by
 obtain⟨gc,gf,hl,oe,vs,T,oT,ts,he,⟨hc,i9⟩,hd,h1,nT,ik,hT,hV,h3⟩:=x;subst hc i9;unfold noteFrame;simp only[hf];refine ZU (wpAny_field he hd h1 ?_);rw[ZY (show(Value.ref T != Value.none)=true from by simp)];refine ZU (wpAny_field hT hV h3 ?_);rw[ZZ (show ¬((Value.none==rawInt L)=true)from by simp[rawInt])];refine ZU (wpAny_setField hT hV (Array.getElem?_eq_some_iff.mp h3).1 ?_);have b8:∀b,b≠T->(s.heap.update T (Obj.mapFields (·.setIfInBounds 3 Value.none))).get? b=s.heap.get? b:=λb hb=>Heap.get?_update_other _ _ (Ne.symm hb);have nr:∀b o,s.heap.get? b=some o->(∀ws,o.data≠.fields ws)->b≠T:=λb o q nf z=>by
  rw[z,hT]at q;cases q;exact nf ts hV
 refine aaX (s:={ s with heap:=_ }) dL (hl.of_keeps λb o q nf=>⟨o,(b8 b (nr b o q nf)).trans q,rfl⟩) hf ((b8 e (Ne.symm ik)).trans he)
  (λb o q=>(b8 b λz=>by rw[z,nT]at q;cases q).trans (gc b o q)) gf hd (Array.getElem?_eq_some_iff.mp h1).1 λh' y up=>h h' y λb o q nf=>up b o ((b8 b (nr b o q nf)).trans q) nf
def Yj(x:vM base l e cls d fl s.heap)(h:∀h',vM base l e cls d .none h'->s.heap.UpToSlots h'->Q () { s with heap:=h' }):wpAny M A (setFlight (.ref e) none) Q E s:=by
 obtain⟨gc,gf,hl,oe,vs,T,oT,ts,he,hc,hd,h1,nT,ik,hT,hV,h3⟩:=x;have z3:3<ts.size:=(Array.getElem?_eq_some_iff.mp h3).1;have b8:∀b,b≠T->(s.heap.update T (Obj.mapFields (·.setIfInBounds 3 ((none:Ω).elim Value.none λf=>rawInt f)))).get? b=s.heap.get? b:=λb hb=>Heap.get?_update_other _ _ (Ne.symm hb);have nr:∀b o,s.heap.get? b=some o->(∀ws,o.data≠.fields ws)->b≠T:=λb o q nf z=>by
  rw[z,hT]at q;cases q;exact nf ts hV
 unfold setFlight;refine ZU (wpAny_field he hd h1 ?_);rw[ZY (show(Value.ref T != Value.none)=true from by simp)];refine wpAny_setField hT hV z3 (h _ ⟨λb o q=>(b8 b λz=>by rw[z,nT]at q;cases q).trans (gc b o q),gf,hl.of_keeps λb o q nf=>⟨o,(b8 b (nr b o q nf)).trans q,rfl⟩,?_⟩ λb o q nf=>⟨o.slots,(b8 b (nr b o q nf)).trans q⟩);exact⟨oe,vs,T,_,_,(b8 e (Ne.symm ik)).trans he,hc,hd,h1,nT,ik,Heap.get?_update_self _ hT (Obj.isFreed_of_fields (Obj.data_mapFields hV _)),Obj.data_mapFields hV _,by simp[z3]⟩
def vM.pop(x:vM base (env::outer) e cls d fl h):vM base outer e cls d fl h:=⟨x.1,x.2.1,x.2.2.1.2.2,x.2.2.2⟩
def abO(dL:A.frames=some (env::outer))(hf:env.frame=some L)(x:vM base (env::outer) e cls d .none s.heap)
 (h:∀h',vM base outer e cls d .none h'->s.heap.UpToSlots h'->Q () { s with heap:=h' }):wpAny M A (leaving env (.ref e)) Q E s:=by
 unfold leaving;exact ZU (Nu dL hf x λh1 y up=>Yj y λh2 z lS=>h h2 z.pop (up.trans lS))
def aai{h0:Heap}(dL:A.frames=some (env::outer))(hf:env.frame=some L)(gc:base.StaysIn h0)(hl:h0.FunFrames base (env::outer))(g5:∀b o,h0.get? b=some o->s.heap.get? b=some o)
 (new:h0.get? e=none)(he:s.heap.get? e=some oe)(hd:oe.data=.fields vs)(h1:vs[1]?=some .none)
 (h:∀h',vM base outer e oe.cls oe.dict .none h'->s.heap.UpToSlots h'->Q () { s with heap:=h' }):wpAny M A (leaving env (.ref e)) Q E s:=by
 have gf:base.get? e=none:=by
  cases q:base.get? e with
  |none=>rfl
  |some o=>have:=gc e o q;rw[new]at this;cases this
 unfold leaving;exact ZU (Xf dL (hl.of_keeps λb o q _=>⟨o,g5 b o q,rfl⟩) hf he (λb o q=>g5 b o (gc b o q)) gf hd h1 λh1 y up=>Yj y λh2 z lS=>h h2 z.pop (up.trans lS))
end
def eZ.there{o:HO}(x:eZ P w H h a o):∃ob,h.get? a=some ob:=by
 cases o with
 |lst xs=>obtain⟨_,_,_,_,e⟩:=x;exact⟨_,e⟩
 |tup xs=>obtain⟨_,_,_,o,e,_⟩:=x;exact⟨_,e⟩
 |dK kvs=>obtain⟨_,_,_,_,o,_,_,e,_⟩:=x;exact⟨_,e⟩
 |set S n=>obtain⟨o,_,_,_,e,_⟩:=x;exact⟨_,e⟩
 |ins C dx fs=>obtain⟨_,_,_,e,_⟩:=x;exact⟨_,e⟩
 |own y=>exact x
 |xd fs=>obtain⟨_,⟨_,_,_,e,_⟩,_⟩:=x;exact⟨_,e⟩
 |rng lo hi=>obtain⟨_,_,_,e⟩:=x;exact⟨_,e⟩
 |frz ob u=>obtain⟨e,_⟩:=x;exact⟨_,e⟩
 |tbl ps=>exact⟨_,(show h.get? a=some _ from x)⟩
 |met f y=>exact⟨_,(show h.get? a=some _ from x)⟩
 |ext φ=>obtain⟨_,e,_⟩:=x;exact e
structure Fly(P:Program)(w:World)(l:xl)(H:Hp)(s:Shared)(a:Addr)(C:Value)(H':Hp)(s':Shared)(B:Heap)(d:Ω):Prop where
 os:s'.os=s.os
 bare:AllBare s'.gens
 new:s.heap.get? a=none
 un:Un (frs l) [] H H' s.heap s'.heap
 hok:HOk P w H' s'.heap
 frf:∀b∈frs l,H' b=none
 fl:vM B l a C d .none s'.heap
 cov:∀b o,s'.heap.get? b=some o->b∉frs l->((∃u,s.heap.get? b=some u)\/∃u,H' b=some u)->B.get? b=some o
section
variable{P:Program}{w:World}{l:xl}{H H':Hp}{s s':Shared}{a:Addr}{C:Value}{B:Heap}{d:Ω}{h':Heap}
def Fly.trk(F:Fly P w l H s a C H' s' B d){u:HO}(e:H' b=some u)(q:s'.heap.get? b=some o):B.get? b=some o :=
 F.cov b o q (λz=>by rw[F.frf b z]at e;cases e) (.inr ⟨u,e⟩)
def Fly.hok'(F:Fly P w l H s a C H' s' B d)(k:∀b o,B.get? b=some o->h'.get? b=some o):HOk P w H' h':=λb u e =>
 (F.hok b u e).stay (λc v hc q=>k c v (by
  rcases hc with z|z
  .subst z;exact F.trk e q
  .exact F.trk z q)) (λ_ q=>q) λ_ _ q=>q
def Fly.un'(F:Fly P w l H s a C H' s' B d)(k:∀b o,B.get? b=some o->h'.get? b=some o)(up:s'.heap.UpToSlots h'):Un (frs l) [] H H' s.heap h':=by
 have nf:∀b∈frs l,∀o,s'.heap.get? b=some o->∀vs,o.data≠.fields vs:=λb hb o e=>by
  obtain⟨_,o',e',d⟩:=F.fl.2.2.1.mem hb;rw[e]at e';cases e';exact d
 refine⟨λb o q n hb hx=>k b o (F.cov b o (F.un.keep b o q n hb hx) hb (.inl ⟨o,q⟩)),λb o q n hb hx=>?_,F.un.free,λb o q hx=>?_,F.un.tups,F.un.frzs,F.un.tbls⟩
 .obtain⟨sl,e⟩:=F.un.slot b o q n hb hx;obtain⟨ic,e'⟩:=up b _ e (nf b hb _ e);exact⟨ic,e'⟩
 .obtain⟨o',e⟩:=F.un.there b o q hx;by_cases hb:b∈frs l
  .obtain⟨ic,e'⟩:=up b _ e (nf b hb _ e);exact⟨_,e'⟩
  .exact⟨o',k b o' (F.cov b o' e hb (.inl ⟨o,q⟩))⟩
end
section
variable{X:Cx}{aa:Γ}{σ:List xL}{H H':Hp}{s s':Shared}{a:Addr}{C:Value}{B:Heap}{d:Ω}{h':Heap}
def Inv.flown(I:Inv X aa σ H s)(F:Fly X.prog X.w X.stack H s a C H' s' B d)(k:∀b o,B.get? b=some o->h'.get? b=some o)(up:s'.heap.UpToSlots h'):Inv X aa σ H' { s' with heap:=h' } :=
 I.call' (s':={ s' with heap:=h' }) (ch:=[]) F.os (F.un' k up) (F.hok' k) F.bare λ_ z=>nomatch z
def Inv.old(I:Inv X aa σ H s)(hx:X.ex=[])(e:X.s₀.heap.get? b=some o):(∃u,s.heap.get? b=some u)/\b≠X.env.locals:=by
 obtain⟨u,q⟩:=I.base.there b o e (by rw[hx];simp);exact⟨⟨u,q⟩,aQ (aR (aK e) I.ok.above)⟩
def Inv.nostk(I:Inv X aa σ H s)(h1:b≠X.env.locals)(h2:b∉X.fs):b∉frs X.stack:=λz=>by
 rcases YU.mp (I.stkSub b z)with e|e
 .exact h1 e
 .exact h2 e
def Inv.flyOut(I:Inv X aa σ H s)(hx:X.ex=[])(F:Fly X.prog X.w X.stack H s a C H' s' B d)(fl:vM B X.outer a C d .none h')(up:s'.heap.UpToSlots h') :
  Fly X.prog X.w X.outer X.H₀ X.s₀ a C H' { s' with heap:=h' } B d:=by
 have J:=I.flown F fl.1 up;refine⟨J.os,J.bare,?_,by have:=J.base;rw[hx]at this;exact this,J.hok,λb hb=>?_,fl,λb o e hb hc=>?_⟩
 .cases q:X.s₀.heap.get? a with
  |none=>rfl
  |some o =>
   obtain⟨⟨u,z⟩,_⟩:=I.old hx q;rw[F.new]at z;cases z
 .obtain⟨_,o,ho,_⟩:=I.ok.funs.mem hb;exact J.base.free b o ho (I.ok.frf b hb) λz=>I.ok.exfs b z hb
 .rcases hc with⟨u,q⟩|⟨u,q⟩
  .obtain⟨⟨v,z⟩,n⟩:=I.old hx q;obtain⟨o',e'⟩:=F.un.there b v z wr;have y:=F.cov b o' e' (I.nostk n hb) (.inl ⟨v,z⟩);have e2:=fl.1 b o' y;rw[show({ s' with heap:=h' } : Shared).heap.get? b=h'.get? b from rfl,e2]at e;cases e;exact y
  .obtain⟨o',e'⟩:=(F.hok b u q).there;have y:=F.trk q e';have e2:=fl.1 b o' y;rw[show({ s' with heap:=h' } : Shared).heap.get? b=h'.get? b from rfl,e2]at e;cases e;exact y
end
def CXO(P:Program)(w:World):CXT:=λl H s E e s'=>∃a C d H' B,e=.ref a/\Fly P w l H s a C H' s' B d/\E C d H'
def aay(X:Cx)(Ex:Value->Ω->L2.St->Hp->Prop):Prop :=
 ∀aa σ H s a C H' s' B d,Inv X aa σ H s->Fly X.prog X.w X.stack H s a C H' s' B d->Ex C d σ H'->X.xe (.ref a) s'
variable{E:XK}{scope:Scope}{cd:Value}{outer:xl}{C:Addr}
def aeM:aay (Dg (CXO P w) P w K mg base N ah scope f cd A outer s H E) (λC d _ H'=>E C d H'):=by
 intro aa σ H1 s1 a C H' s' B d I F q;show wpAny _ _ (leaving _ (.ref a)) _ _ _;refine abO (outer:=outer) I.ok.frames rfl F.fl λh' fl up=>?_;exact⟨a,C,d,H',B,rfl,I.flyOut rfl F fl up,q⟩
def Fun.okX{k:Nat}(F:Fun K x ah st f fd)(S:bK N ps (bG st))(len:∀vs H Q E,sp vs H Q E->vs.length=ps.length)
 (bg:∀(ai:Value)(A:Around)(outer:xl)(s:Shared)(H:Hp)(vs:Ε)(Q:VK)(E:XK),dH k (A.deeper (envOfC ah (bG st) s.heap.objs.size f ai))->sp vs H Q E ->
   ∃t,PSs (Dg (CXO P w) P w K mg base N ah (bG st) f ai A outer s H E) (fJ st) t/\t { nx:=λ_ H'=>Q .non H',rt:=Q } (L2.start N vs) H):d9 P w K mg base (CXO P w) (k+1) f fd ps sp:=by
 obtain⟨oc,od,kV,bz,pm,an,ai,ct,dy,rfl,lk,aI⟩:=F.ex;exact agz lk aI S len λA outer s H vs Q E hr eW=>bg ai A outer s H vs Q E hr eW
def OkX(P:Program)(w:World)(K:Frag)(mg:Str->Ψ)(base:Heap)(k:Nat)(x:Str)(ps:Θ)(sp:Sp):Prop :=
 ∃f fd,d9 P w K mg base (CXO P w) k f fd ps sp/\Binds K fd ps []/\mg x=some (.ref f)/\keepIn K (.ref f)=true
def cL.okX{k:Nat}(h:cL K mg x st ps)
 (hf:∀f fd,Fun K x x st f fd->d9 P w K mg base (CXO P w) k f fd ps sp):OkX P w K mg base k x ps sp:=by
 obtain⟨f,fd,a,b,c⟩:=h;exact⟨f,fd,hf f fd a,.all b,c,a.kp⟩
section
variable{X:Cx}{p pos:Pos}{e:Expr}{es:ze}{t:TA}{x:Str}{k:Nat}{ps:Θ}{sp:Sp}{Ex:Value->Ω->L2.St->Hp->Prop}
def aiu(sp:Sp)(Ex:Value->Ω->L2.St->Hp->Prop)(t:TA):TE:=λσ H Q=>t σ H λvs H1=>sp vs H1 Q λC d H'=>Ex C d σ H'
def Ks(G:OkX X.prog X.w X.K X.mg X.base k x ps sp)(hr:dH k X.A)(hg:Gl X x)(hx:aay X Ex)(ha:PA X (e::es) t)(bo:qk x:=by decide)
 (he:qo X e es:=by rfl)(aE:qh X pos es:=by rfl):PE X (.Call (.Name x p) (e::es) [] pos) (aiu sp Ex t):=by
 obtain⟨f,fd,F,hb,hm,kp⟩:=G;intro aa s σ H Q I h;refine wpAny_Call_Name_kw (rH I hg hm ?_ bo);refine callWith_K (h₀:=X.base) I.ok.mod.kin kp (thn (ha pos aa s σ H _ I h) λus s1 ⟨vs,H1,I1,r,q⟩=>⟨I1.kIn,?_⟩) he aE;have hl:us.length=ps.length:=by rw[<- r.length];exact F.len _ _ _ _ q
 have eP:=hb s1 us I1.kIn (by simpa using hl);simp only[List.append_nil]at eP;refine wpAny_call (codeAny_mono (F.run X.A X.stack s1 H1 ⟨us,[]⟩ us vs Q _ hr I1.env0 eP r q) λr s' hq=>?_);cases r with
 |error e =>
  obtain⟨a,C,d,H',B,rfl,Fl,q'⟩:=hq;exact hx aa σ H1 s1 a C H' s' B d I1 Fl q'
 |ok fl =>
  cases fl with
  |ret u=>exact I1.after hq
  |next=>exact False.elim hq
  |brk=>exact False.elim hq
  |cont=>exact False.elim hq
end
abbrev bmV:Δ:=[.type "ValueError",.type "Exception",.type "BaseException",.type "object"]
def aiJ(K:Frag)(C:Addr):Prop:=excIn K C bmV "ValueError.__new__"=true
def aec(X:K.In h)(q:aiJ K C):∃bm N nm qn bs gv sn sub ab col dd k0 k1 k2 k3 k5 mN,h.get? C=some (excClassObj nm qn C N bs bm gv sn sub ab col dd k0 k1 k2 k3 k5 "ValueError.__new__") /\
  h.Ns N mN/\mN "__init__"=none/\OwnTail h bmV bm:=by
 unfold aiJ excIn at q;split at q
 .rename_i dd cd sl ho
  split at q
  .rename_i C' bm k0 k1 k2 k3 n k5 hm hs
   simp only[JY,beq_iff_eq,Bool.not_eq_true']at q;obtain⟨⟨⟨⟨⟨rfl,rfl⟩,kD⟩,ht⟩,hok⟩,hni⟩:=q;obtain⟨nm,bs,mro,ns,qn,hd,sn,sub,ab,col,p4⟩:=cd;dsimp only at hm kD hok hni;subst hm kD;have hsl:sl = #[k0,k1,k2,k3,some (.builtin "ValueError.__new__"),k5]:=by
    obtain⟨l⟩:=sl;simp only at hs;rw[hs]
   subst hsl;exact⟨bm,ns,nm,qn,bs,hd,sn,sub,ab,col,dd,k0,k1,k2,k3,k5,_,X _ _ ho,.of_isNs (isNs_of_in X hok),PySem.W.nsMap_none_of_in X hok hni,PySem.W.tail_of_in X ht⟩
  .cases q
 .cases q
abbrev Cx.tryc(X:Cx)(pn:Γ)(E:Β):Cx:={ X with pn:=pn,xe:=E }
abbrev Cx.marked(X:Cx)(a:Addr)(E:Β):Cx:={ X with A:=X.A.mark (some (.ref a)),calm:=false,xe:=E }
variable{E:Β}{pn aa dq:Γ}{σ:L2.St}{i t:Nat}{n Dn:Str}{M:Model}{d:Drawn}{g:xE}{os:OsState}{D:Addr}{nv np:Pos}{bv gS:xB}{b₀:Stmt}{tb:(Value->Ω->L2.St->Hp->Prop)->TS}{th:TS}{tk:Tok}
def Cx.Ok.tryc(ok:X.Ok):(X.tryc pn E).Ok:=⟨ok.mod,ok.kind,ok.glob,ok.blt,ok.above,ok.inj,ok.has,ok.cab,ok.hd,ok.frames,ok.stk,ok.exf,ok.bs,ok.bsz,ok.noex,ok.exfs,ok.funs,ok.frf⟩
def Cx.Ok.untry(ok:(X.tryc pn E).Ok):X.Ok:=⟨ok.mod,ok.kind,ok.glob,ok.blt,ok.above,ok.inj,ok.has,ok.cab,ok.hd,ok.frames,ok.stk,ok.exf,ok.bs,ok.bsz,ok.noex,ok.exfs,ok.funs,ok.frf⟩
def Inv.tryc(I:Inv X aa σ H s):Inv (X.tryc (X.pn++aa) E) [] σ H s:=⟨I.ok.tryc,I.os,I.bare,I.base,I.loc,I.cell,I.free,I.freeC,λp hp=>I.pin p (by simpa using hp),I.hok,I.len⟩
def Inv.untry(I:Inv (X.tryc (X.pn++aa) E) dq σ H s):Inv X aa σ H s:=⟨I.ok.untry,I.os,I.bare,I.base,I.loc,I.cell,I.free,I.freeC,λp hp=>I.pin p (U1 _ hp),I.hok,I.len⟩
def Cx.Ok.marked(ok:X.Ok):(X.marked a E).Ok:=⟨ok.mod,ok.kind,ok.glob,ok.blt,ok.above,ok.inj,ok.has,ok.cab,λz=>(nomatch z),ok.frames,ok.stk,ok.exf,ok.bs,ok.bsz,ok.noex,ok.exfs,ok.funs,ok.frf⟩
def Inv.marked(I:Inv X aa σ H s):Inv (X.marked a E) aa σ H s:=⟨I.ok.marked,I.os,I.bare,I.base,I.loc,I.cell,I.free,I.freeC,I.pin,I.hok,I.len⟩
def Inv.unmarked(ok:X.Ok)(I:Inv (X.marked a E) aa σ H s):Inv X aa σ H s:=⟨ok,I.os,I.bare,I.base,I.loc,I.cell,I.free,I.freeC,I.pin,I.hok,I.len⟩
def Inv.track{o:HO}(I:Inv X aa σ H s)(hn:H a=none)(ha:X.s₀.heap.get? a=none)(hL:a≠X.env.locals)(hC:∀x c,X.env.cells.lookup x=some c->c≠a)(hp:∀p∈X.pn++aa,p.1≠a)
 (ok:eZ X.prog X.w (upd H a o) s.heap a o):Inv X aa σ (upd H a o) s:=by
 have ne:∀b u,H b=some u->b≠a:=λb u e=>lH e hn;have ne0:∀b u,X.s₀.heap.get? b=some u->b≠a:=λb u e z=>by rw[z,ha]at e;cases e
 refine⟨I.ok,I.os,I.bare,⟨I.base.keep,I.base.slot,λb ob e n hx=>by rw[bU (ne0 b ob e)];exact I.base.free b ob e n hx,I.base.there,λb xs e=>?_,λb ob u e=>?_,λb ps e=>?_⟩,I.loc,I.cell,by rw[bU hL.symm];exact I.free,λx c e=>by rw[bU (hC x c e)];exact I.freeC x c e,λp q=>?_,λb u e=>?_,I.len⟩
 .have z:=I.base.tups b xs e;rw[bU (ne b _ z)];exact z
 .have z:=I.base.frzs b ob u e;rw[bU (ne b _ z)];exact z
 .obtain⟨m,z⟩:=I.base.tbls b ps e;exact⟨m,by rw[bU (ne b _ z)];exact z⟩
 .obtain⟨h1,h2,h3⟩:=I.pin p q;exact⟨h1,by rw[bU (hp p q)];exact h2,h3⟩
 .by_cases z:b=a
  .subst z;rw[bW]at e;cases e;exact ok
  .rw[bU z]at e;exact(I.hok b u e).stay (λ_ _ _ q=>q) (λc q=>by rwa[bU (ne c _ q)]) λc xs q=>by rwa[bU (ne c _ q)]
def Inv.unname(I:Inv X aa σ H s)(hN:X.N.Nodup)(hi:X.N[i]?=some n)(hk:X.env.scope.names.lookup n=some .local)
 (h:∀s',Inv X aa (σ.set i none) H s'->Q () s'):wpAny M A (do bindName X.env n .none;unbindBehindTheSuite X.env n pos) Q E s:=by
 obtain⟨m,hn,hl⟩:=id I.loc;have fF:(X.env.scope.kind == .class || (X.env.scope.kind == .module&&X.env.locals != X.env.globals))=false:=by rw[I.ok.kind];rfl
 have cne:=I.cne;have k7:i<σ.length:=by rw[I.len];exact(ao.mp hi).1
 refine wpAny_nameGoes_keeps hk hn fF λh' v nV hs=>?_;have hok:HOk X.prog X.w H h':=λb ob e=>(I.hok b ob e).stay (λc w' hc q=>(hs.2 c (by
  rintro rfl;rcases hc with rfl|hc
  .rw[I.free]at e;cases e
  .rw[I.free]at hc;cases hc)).trans q) (λ_ q=>q) λ_ _ q=>q
 refine h _ ⟨I.ok,I.os,I.bare,⟨λb o e n' hb hx=>?_,λb o e n' hb hx=>?_,I.base.free,λb o e hx=>?_,I.base.tups,I.base.frzs,I.base.tbls⟩,⟨_,nV,λj y v' e1 e2 e3=>?_⟩,λy c e=>?_,I.free,I.freeC,λp hp=>?_,hok,by simpa using I.len⟩
 .exact(hs.2 b (aQ (aR (aK e) I.ok.above))).trans (I.base.keep b o e n' hb hx)
 .obtain⟨sl,e1⟩:=I.base.slot b o e n' hb hx;exact⟨sl,(hs.2 b (aQ (aR (aK e) I.ok.above))).trans e1⟩
 .obtain⟨o',e1⟩:=I.base.there b o e hx;exact⟨o',(hs.2 b (aQ (aR (aK e) I.ok.above))).trans e1⟩
 .by_cases hj:j=i
  .subst hj;rw[UU k7]at e2;cases e2
  .rw[VQ (Ne.symm hj)]at e2;obtain⟨u',r',q⟩:=hl j y v' e1 e2 e3;refine⟨u',r',?_⟩;rcases q with⟨k,e⟩|⟨k,c,e,z⟩
   .refine .inl ⟨k,?_⟩;have:y≠n:=λe=>hj (Kf hN e1 (e ▸ hi));simp[this,e]
   .exact .inr ⟨k,c,e,z.sameBut hs (cne y c e)⟩
 .obtain⟨w',z⟩:=I.cell y c e;exact⟨w',z.sameBut hs (cne y c e)⟩
 .obtain⟨e,n',ne,nf,d⟩:=I.pin p hp;exact⟨(hs.2 p.1 ne).trans e,n',ne,nf,d⟩
def XO(a C:Addr)(d:Ω):HO:=.ext λh=>∃o,h.get? a=some o/\o.cls=.ref C/\o.dict=d/\∃vs,o.data=.fields vs
def VB{Q:Bool->Shared->Prop}{b:Bool}(X:K.In h)
 (qD:mroIn K D (.type "BaseException")=some true)(lT:typeIn K (.ref D)=some (.type "type"))(he:h.get? a=some oe)(hc:oe.cls=.ref C)(qS:mroIn K C (.ref D)=some b)
 (hq:Q b ⟨h,g,d,t,os⟩):wpAny M A (excMatches (.ref a) (.ref D)) Q E ⟨h,g,d,t,os⟩:=by
 have l1:PySem.W.Looks M h (isInstance (.ref D) (.type "tuple")) false:=(PySem.W.looks_typeIn X lT).andThen (PySem.W.Looks.of_pure tc_notTuple);have l2:PySem.W.Looks M h (isType (.ref D)) true:=by
  obtain⟨cdD,dS,_⟩:=Option.bind_eq_some_iff.mp qD;unfold clsIn at dS;split at dS
  .rename_i c' d' cd' ic ho
   intro A' Q' E' s' k q;unfold isType loadHead;exact ZU (wpAny_loadPart (k _ _ (X _ _ ho)) (ZT q))
  .cases dS
 have l3:PySem.W.Looks M h (isSubtype (.ref D) (.type "BaseException")) true:=looks_mroIn X qD;have l4:PySem.W.Looks M h (isSubtype (.ref C) (.ref D)) b:=looks_mroIn X qS;have l5:PySem.W.Looks M h (typeOf (.ref a)) (.ref C):=by
  intro A' Q' E' s' k q;rw[<- hc]at q;unfold typeOf;exact ZU (wpAny_loadPart (k _ _ he) (ZT q))
 unfold excMatches;refine ZU (l1.at ?_);simp only[XW,if_false];refine ZU (ZT ?_);simp only[List.forIn_cons,List.forIn_nil];unfold isExcClass;refine ZU (ZU (ZU (ZU (l2.at ?_))));simp only[if_true];refine l3.at ?_;simp only[Bool.not_true,XW,if_false];refine ZT (ZT (ZU (l5.at ?_)));refine ZU (ZU (ZU (l4.at ?_)));cases b with
 |true =>
  simp only[if_true];exact ZT (ZT (ZT hq))
 |false =>
  simp only[XW,if_false];exact ZT (ZT (ZT hq))
def Ends.unset(R:Ends)(i:Nat):Ends:={ nx:=λσ H=>R.nx (σ.set i none) H,rt:=R.rt,bk:=λσ H=>R.bk (σ.set i none) H,ct:=λσ H=>R.ct (σ.set i none) H }
def ahU(K:Frag)(D:Addr)(i:Nat)(tb:(Value->Ω->L2.St->Hp->Prop)->TS)(th:TS):TS:=λR σ H =>
 ∃Ex:Value->Ω->L2.St->Hp->Prop,tb Ex R σ H/\∀C' d σ' H',Ex C' d σ' H'->∃C,C'=.ref C/\mroIn K C (.ref D)=some true /\
  ∀a,H' a=none->th (R.unset i) (σ'.set i (some (.ref a))) (upd H' a (XO a C d))
def ac3(hN:X.N.Nodup)(hi:X.N[i]?=some n)(hJ:X.env.scope.names.lookup n=some .local)(hgD:Gl X Dn)(hmD:X.mg Dn=some (.ref D))(qD:mroIn X.K D (.type "BaseException")=some true)
 (lT:typeIn X.K (.ref D)=some (.type "type"))(bu:X.stack=X.env::X.outer)(dL:X.env.frame=some X.env.locals)(hex:X.ex=[])
 (hb:∀pn' E' Ex,aay (X.tryc pn' E') Ex->PSs (X.tryc pn' E') bv (tb Ex))(hh:∀a E',PSs (X.marked a E') (b₀::gS) th)(bo:qk Dn:=by decide) :
  PS X (.Try bv [.ExceptHandler (some (.Name Dn np)) (some n) (b₀::gS) nv] [] [] pos) (ahU X.K D i tb th):=by
 intro aa s σ H R I h;obtain⟨Ex,h1,h2⟩:=h;refine wpAny_Try_except ?_;have iP:∀{Y:Cx}{pn:Γ}{f:Flow}{s':Shared},(∀{σ':L2.St}{H':Hp},Inv Y pn σ' H' s'->Inv X aa σ' H' s')->SP Y pn R f s'->SP X aa R f s':=λ{Y pn f s'}k q=>by
  cases f with
  |next=>obtain⟨σ',H',J,z⟩:=q;exact⟨σ',H',k J,z⟩
  |brk=>obtain⟨σ',H',J,z⟩:=q;exact⟨σ',H',k J,z⟩
  |cont=>obtain⟨σ',H',J,z⟩:=q;exact⟨σ',H',k J,z⟩
  |ret u=>obtain⟨v,σ',H',J,z⟩:=q;exact⟨v,σ',H',k J,z⟩
 refine wpAny_mono (hb (X.pn++aa) _ Ex ?_ [] s σ H R I.tryc h1) (λf s1 q=>?_) λ_ _ z=>z
 rotate_left
 .have q':=iP (λJ=>J.untry) q;cases f with
  |next=>exact wpAny_execs_nil q'
  |brk=>exact q'
  |cont=>exact q'
  |ret u=>exact q'
 intro dq σ1 H1 s1 a C' H' s' B d J F ex;have J0:Inv X aa σ1 H1 s1:=J.untry;obtain⟨C,rfl,qS,k⟩:=h2 C' d σ1 H' ex;have F0:Fly X.prog X.w X.stack H1 s1 a (.ref C) H' s' B d:=F;have fl0:vM B (X.env::X.outer) a (.ref C) d .none s'.heap:=by rw[<- bu];exact F0.fl
 show wpAny _ _ (noteFrame (.ref a) X.env) _ _ _;refine Nu (outer:=X.outer) (L:=X.env.locals) (I.ok.frames.trans (by rw[bu])) dL fl0 λh₄ iL sm₄=>?_;refine Yj iL λh₅ pj sm₅=>?_;have J5:Inv X aa σ1 H' { s' with heap:=h₅ }:=J0.flown F0 pj.1 (sm₄.trans sm₅);obtain⟨oe,vs,he,fF,_,hd⟩:=pj.first;refine wpAny_handleBy_cons (codeAny_handlers_test ?_) (by intro q;cases q);refine rH (X:=X.marked a (λ_ _=>False)) J5.marked hgD hmD ?_ bo;refine VB (K:=X.K) J5.kIn qD lT he fF qS ?_;show codeAny _ _ _ _ _;refine codeAny_handlers_suite_as ?_;refine Yj pj λh₆ fl₆ sm₆=>?_;have J6:Inv X aa σ1 H' { s' with heap:=h₆ }:=J0.flown F0 fl₆.1 ((sm₄.trans sm₅).trans sm₆);obtain⟨oe6,vs6,k8,kF,hda,oB⟩:=fl₆.first;have na:H' a=none:=by
  cases q:H' a with
  |none=>rfl
  |some u =>
   obtain⟨o',e'⟩:=(F0.hok a u q).there;have y:=F0.trk q e';rw[F0.fl.2.1]at y;cases y
 have ns:X.s₀.heap.get? a=none:=by
  cases q:X.s₀.heap.get? a with
  |none=>rfl
  |some o =>
   obtain⟨⟨u,z⟩,_⟩:=J0.old hex q;rw[F0.new]at z;cases z
 have nL:a≠X.env.locals:=λz=>by
  obtain⟨m,⟨o,es,ep,e,dd,_⟩,_⟩:=J6.loc;rw[<- z]at e;have e':h₆.get? a=some o:=e;rw[k8]at e';cases e';rw[oB]at dd;cases dd
 have nC:∀x c,X.env.cells.lookup x=some c->c≠a:=λx c e z=>by
  obtain⟨v,o,e',dd⟩:=J6.cell x c e;rw[z]at e';have e2:h₆.get? a=some o:=e';rw[k8]at e2;cases e2;rw[oB]at dd;cases dd
 have nP:∀p∈X.pn++aa,p.1≠a:=λp hp z=>by
  have:=(J0.pin p hp).1;rw[z,F0.new]at this;cases this
 have okx:eZ X.prog X.w (upd H' a (XO a C d)) h₆ a (XO a C d):=⟨⟨oe6,k8,kF,hda,vs6,oB⟩,⟨oe6,k8⟩,λg1 g2 ⟨o,e1,e2⟩ kk=>⟨o,kk o e1,e2⟩⟩;have J7:Inv X aa σ1 (upd H' a (XO a C d)) { s' with heap:=h₆ }:=J6.track na ns nL nC nP okx;refine t_ (X:=X.marked a (λ_ _=>False)) J7.marked hN hi (.inl hJ) (v:=.ref a) rfl (λs8 J8=>?_) (.inr hJ);have J8':Inv X aa (σ1.set i (some (.ref a))) (upd H' a (XO a C d)) s8:=J8.unmarked I.ok;refine wpAny_mono (hh a _ aa s8 _ _ _ J8'.marked (k a na)) (λf s9 q=>?_) λ_ _ z=>z;cases f with
 |next =>
  obtain⟨σ',H2,J9,z⟩:=q;exact(J9.unmarked I.ok).unname hN hi hJ λi4 iS=>⟨_,_,iS,z⟩
 |brk =>
  obtain⟨σ',H2,J9,z⟩:=q;exact(J9.unmarked I.ok).unname hN hi hJ λi4 iS=>⟨_,_,iS,z⟩
 |cont =>
  obtain⟨σ',H2,J9,z⟩:=q;exact(J9.unmarked I.ok).unname hN hi hJ λi4 iS=>⟨_,_,iS,z⟩
 |ret u =>
  obtain⟨v,σ',H2,J9,rv,z⟩:=q;exact(J9.unmarked I.ok).unname hN hi hJ λi4 iS=>⟨v,_,_,iS,rv,z⟩
structure Ej(K:Frag)(C:Addr):Prop where
 ga:findIn K (.ref C) "__getattribute__"=some (some (.builtin "BaseException.__getattribute__"))
 gn:findIn K (.ref C) "__getattr__"=some none
 cl:findIn K (.ref C) "__class__"=some (some (.builtin "object.__class__"))
 mo:mroIn K C (.type "object")=some true
 mb:mroIn K C (.type "BaseException")=some true
def jZ(hx:h.get? a=some o)(hc:o.cls=.ref C):PySem.W.Looks M h (typeOf (.ref a)) (.ref C):=by
 intro A' Q' E' s' k q;rw[<- hc]at q;unfold typeOf;exact ZU (wpAny_loadPart (k _ _ hx) (ZT q))
def Ma{R:Result->Shared->Prop}(X:K.In h)(T:Ej K C)(hx:h.get? a=some o)(hc:o.cls=.ref C)(hq:R (.ok (.ret (.ref C))) ⟨h,g,d,t,os⟩) :
  codeAny (model prog w) A (.call (.builtin "getset_descriptor.__get__") ⟨[.builtin "object.__class__",.ref a,.ref C],[]⟩) R ⟨h,g,d,t,os⟩:=by
 have hT5:(⟨h,g,d,t,os⟩ : Shared).TypeIs (.builtin "object.__class__") "getset_descriptor":=F.typeOf_object_class;have LT:=jZ (M:=model prog w) hx hc;have LO:PySem.W.Looks (model prog w) h (isSubtype (.ref C) (.type (".".intercalate ("object.__class__".cutAt '.').dropLast))) true:=by
  rw[F.owner_object_class];exact looks_mroIn X T.mo
 refine codeAny_call_builtin F.slot_gs_get.plain F.entry_gs_get (F.slot_gs_get.check _ _ _ _ _ _ _ _ hT5 (F.args_gs_get _ _ _) ?_)
 repeat (any_goals (first|assumption|with_reducible refine LT.at ?_|with_reducible refine LO.at ?_|(with_reducible refine wpAny_loadPart_at hx ?_;rw[hc])|wp_step))
 refine⟨Code.quiet_builtin _ (by decide +kernel),codeAny_builtin F.entry_object_class ?_⟩
 repeat (any_goals (first|assumption|with_reducible refine LT.at ?_|(with_reducible refine wpAny_loadPart_at hx ?_;rw[hc])|wp_step))
def GR{Q:Fin->Shared->Prop}(X:K.In h)(T:Ej K C)(hx:h.get? a=some o)(hc:o.cls=.ref C)(hq:Q (.done (.ret (.ref C))) ⟨h,g,d,t,os⟩) :
  wpAny (model prog w) A (Builtin.«object.__getattribute__» ⟨[.ref a,.str "__class__" tk],[]⟩) Q E ⟨h,g,d,t,os⟩:=by
 have hT5:(⟨h,g,d,t,os⟩ : Shared).TypeIs (.builtin "object.__class__") "getset_descriptor":=F.typeOf_object_class;have f5:=F.typeOf_object_class;have f6:=F.slot_gs_get.lookup;have f7:=F.slot_gs_set.lookup;have LT:=jZ (M:=model prog w) hx hc;have LC:=looks_findIn (M:=model prog w) X T.cl
 repeat (any_goals (first|assumption|with_reducible refine LT.at ?_|with_reducible refine LC.at ?_|(with_reducible refine wpAny_loadPart_at hx ?_;rw[hc])|wp_step))
 refine Ma X T hx hc ?_
 repeat (any_goals (first|assumption|wp_step))
def Ci{g3:Value}(X:K.In h)(T:Ej K C)(hx:h.get? a=some o)(hc:o.cls=.ref C)(hq:Q () ⟨h,g,d,t,os⟩) :
  wpAny M A (checkBuiltinCall "BaseException.__getattribute__" ⟨[.ref a,g3],[]⟩) Q E ⟨h,g,d,t,os⟩:=by
 have hk:builtinKind "BaseException.__getattribute__"=some .slot:=by decide +kernel
 have iq:splitId "BaseException.__getattribute__"=some ("BaseException","__getattribute__"):=by decide +kernel
 have ha:=F.args_bexc_ga (.ref a) g3;have LT:=jZ (M:=M) hx hc;have LB:=looks_mroIn (M:=M) X T.mb;simp only[checkBuiltinCall,hk,iq];refine ZU ?_;unfold isInstance
 repeat (first|with_reducible refine LT.at ?_|with_reducible refine LB.at ?_|(with_reducible refine wpAny_loadPart_at hx ?_;rw[hc])|wp_step)
 exact hq
def R6{Q:Β}(X:K.In h)(T:Ej K C)(hx:h.get? a=some o)(hc:o.cls=.ref C)(hq:Q (.ref C) ⟨h,g,d,t,os⟩) :
  wpAny (model prog w) A (getAttrBy (.ref a) (.str "__class__" tk) false) Q E ⟨h,g,d,t,os⟩:=by
 have f3:=F.excAttr_ValueError.ga.bind (.ref a);have hx2:(Value.builtin "BaseException.__getattribute__"== Value.builtin "object.__getattribute__")=false:=by decide +kernel
 have mP:(onTheHeap (Value.ref C)&&Value.builtin "BaseException.__getattribute__"== Value.builtin "object.__getattribute__")=false:=by rw[hx2];exact Bool.and_false _
 have LT:=jZ (M:=model prog w) hx hc;have LG:=looks_findIn (M:=model prog w) X T.ga;have LN:=looks_findIn (M:=model prog w) X T.gn
 repeat (any_goals (first|assumption|with_reducible refine LT.at ?_|with_reducible refine LG.at ?_|with_reducible refine LN.at ?_|(with_reducible refine wpAny_loadPart_at hx ?_;rw[hc])|wp_step))
 refine codeAny_call_builtin F.excAttr_ValueError.ga.plain F.entry_bexc_ga (Ci X T hx hc (GR X T hx hc ?_))
 repeat (any_goals (first|assumption|wp_step))
def Le{Q:Ψ->Shared->Prop}(X:K.In h)(T:Ej K C)(hx:h.get? a=some o)(hc:o.cls=.ref C)(hq:Q (some (.ref C)) ⟨h,g,d,t+1,os⟩) :
  wpAny (model prog w) A (getAttr? (.ref a) "__class__") Q E ⟨h,g,d,t,os⟩:=by
 unfold getAttr? getAttrBy?
 repeat (any_goals (first|assumption|with_reducible apply R6 X T hx hc|wp_step))
def uz(cells:xw):xD->xw->xw
 |[],acc=>acc
 |(n,k)::r,acc=>uz cells r (if k == .free then(n,(cells.lookup n).getD 0)::acc else acc)
def VN{env:Env}(h:∀y∈scope.names,y.2=.free->∃c,env.cells.lookup y.1=some c):closureFor scope env=pure (uz env.cells scope.names []):=by
 unfold closureFor;have go:∀(l:xD)(acc:xw),(∀y∈l,y.2=.free->∃c,env.cells.lookup y.1=some c) ->
   (forIn l acc (λ(x:Str×NameKind)(r:xw)=>if(x.2==NameKind.free)=true then(do let a <- cellOf env x.1;pure (ForInStep.yield ((x.1,a)::r)))else pure (ForInStep.yield r)):Sem (xw))=pure (uz env.cells l acc):=by
  intro l
  induction l with
  |nil=>intro acc _;rfl
  |cons y r ih =>
   intro acc hy;obtain⟨n,k⟩:=y;rw[List.forIn_cons];by_cases hk:k=.free
   .subst hk;obtain⟨c,hc⟩:=hy (n,.free) aO rfl;have e1:cellOf env n=pure c:=by unfold cellOf;rw[show env.cells.lookup n=some c from hc]
    simp only[beq_self_eq_true,if_true,e1,pure_bind];rw[ih _ λz hz=>hy z (aJ _ hz)];show pure _=pure (uz env.cells r (if(NameKind.free==NameKind.free)=true then(n,(env.cells.lookup n).getD 0)::acc else acc));rw[show env.cells.lookup n=some c from hc]
    rfl
   .have hb:(k==NameKind.free)=false:=by simpa using hk
    simp only[hb,XW,if_false,pure_bind];rw[ih _ λz hz=>hy z (aJ _ hz)];show pure _=pure (uz env.cells r (if(k==NameKind.free)=true then(n,(env.cells.lookup n).getD 0)::acc else acc));rw[hb]
    rfl
 have e:=go scope.names [] h;show(forIn scope.names [] (λ(x:Str×NameKind)(r:xw)=>if(x.2==NameKind.free)=true then(do let a <- cellOf env x.1;pure (ForInStep.yield ((x.1,a)::r)))else pure (ForInStep.yield r)):Sem (xw)) >>= (λcs=>pure cs)=_;rw[e]
 rfl
theorem Ur{cells:xw} : ∀{names:xD}{acc:xw}{x:Str}{c:Addr},(∀y∈names,y.2=.free->∃c,cells.lookup y.1=some c)->(x,c)∈uz cells names acc->(x,c)∈acc\/cells.lookup x=some c
 |[],_,_,_,_,h=>.inl h
 |(n,k)::r,acc,x,c,hf,h=>by
  unfold uz at h;rcases Ur (λy hy=>hf y (aJ _ hy)) h with z|z
  .by_cases hk:k=.free
   .subst hk;simp only[beq_self_eq_true,if_true]at z;rcases YU.mp z with e|e
    .obtain⟨c',dk⟩:=hf (n,.free) aO rfl;cases e;rw[show cells.lookup n=some c' from dk];exact .inr rfl
    .exact .inl e
   .have hb:(k==NameKind.free)=false:=by simpa using hk
    simp only[hb,XW,if_false]at z;exact .inl z
  .exact .inr z
theorem S_{cells:xw} : ∀{names:xD}{acc:xw}{x:Str},((x,NameKind.free)∈names\/∃c,(x,c)∈acc)->∃c,(x,c)∈uz cells names acc
 |[],_,_,h=>by
  rcases h with h|h
  .cases h
  .exact h
 |(n,k)::r,acc,x,h=>by
  unfold uz;refine S_ ?_;rcases h with h|⟨c,h⟩
  .rcases YU.mp h with e|e
   .cases e;exact .inr ⟨_,by simp only[beq_self_eq_true,if_true];exact aO⟩
   .exact .inl e
  .refine .inr ⟨c,?_⟩;split
   .exact aJ _ h
   .exact h
theorem qF{α:Type}{x:Str}{c:α} : ∀{l:List (Str×α)},(x,c)∈l->∃c',l.lookup x=some c'
 |(y,d)::r,h=>by
  rw[List.lookup_cons];cases hb:x==y with
  |true=>exact⟨d,rfl⟩
  |false =>
   rcases YU.mp h with e|e
   .cases e;simp at hb
   .exact qF e
def Cx.comp(X:Cx)(N':Θ)(scope:Scope)(x:Str)(C:Addr)(s₀:Shared)(H₀:Hp)(ex:Φ)(pn:Γ):Cx :=
 { X with env:=compEnvC scope (uz X.env.cells scope.names []) C X.env,N:=x::N',s₀:=s₀,H₀:=H₀,outer:=X.stack,ex:=ex,fn:=λ_=>false,pn:=pn,xe:=λ_ _=>False }
def Inv.nostk'(I:Inv X aa σ H s)(h1:b≠X.env.locals)(h2:b∉X.fs):b∉frs X.stack:=λz=>by
 rcases YU.mp (I.stkSub b z)with e|e
 .exact h1 e
 .exact h2 e
theorem CT{env:Env} : ∀{names:xD}{y:Str},(names.map λ(n,k)=>if(k==NameKind.free&&env.scope.kind == .function&&env.kindOf n==some .cell)then(n,NameKind.cell)else(n,k)).lookup y=some .cell \/
  (names.map λ(n,k)=>if(k==NameKind.free&&env.scope.kind == .function&&env.kindOf n==some .cell)then(n,NameKind.cell)else(n,k)).lookup y=some .free->(∀z∈names,z.2≠.cell)->(y,NameKind.free)∈names
 |[],y,h,_=>by rcases h with h|h<;>cases h
 |(n,k)::r,y,h,hc=>by
  have ih:=@CT env r y;simp only[List.map_cons]at h;by_cases hcond:(k==NameKind.free&&env.scope.kind == .function&&env.kindOf n==some .cell)=true
  .rw[ZY hcond]at h;simp only[List.lookup_cons]at h;cases hb:y==n with
   |true =>
    have hk:k=.free:=by
     simp only[JY,beq_iff_eq]at hcond;exact hcond.1.1
    have:y=n:=by simpa using hb
    subst this hk;exact aO
   |false =>
    rw[hb]at h;exact aJ _ (ih h λz hz=>hc z (aJ _ hz))
  .rw[ZZ hcond]at h;simp only[List.lookup_cons]at h;cases hb:y==n with
   |true =>
    rw[hb]at h;have:y=n:=by simpa using hb
    subst this;rcases h with h|h
    .exact absurd (Option.some.inj h) (hc (y,k) aO)
    .have:k=.free:=Option.some.inj h;subst this;exact aO
   |false =>
    rw[hb]at h;exact aJ _ (ih h λz hz=>hc z (aJ _ hz))
def PB(hg:Gl X x)(hm:X.mg x=some (.ref D))(hd:qk x:=by decide):PE X (.Name x pos) (tC (.ref D)):=PN hg hm rfl hd
def abx(T:Ej K C):KitX K (.ref a) (.ref C) (λh=>∃o,h.get? a=some o/\o.cls=.ref C) where
 ty:=λM h _ hP=>by obtain⟨o,e,c⟩:=hP;exact jZ e c
 it:=λM h Y _=>by
  obtain⟨cdD,dS,_⟩:=Option.bind_eq_some_iff.mp T.mo;unfold clsIn at dS;split at dS
  .rename_i c' d' cd' ic ho
   intro A' Q' E' s' k q;unfold isType loadHead;exact ZU (wpAny_loadPart (k _ _ (Y _ _ ho)) (ZT q))
  .cases dS
 ne:=λh tp dd its n sl Y htp=>by
  obtain⟨cdD,dS,_⟩:=Option.bind_eq_some_iff.mp T.mo;refine Bool.eq_false_iff.mpr λq=>?_;have e:C=tp:=Value.ref.inj (beq_iff_eq.mp q);subst e;unfold clsIn at dS;split at dS
  .rename_i c' d' cd' ic ho
   have z:=(Y _ _ ho).symm.trans htp;cases z
  .cases dS
 ca:=λ{prog w A E Q s}Y ⟨o,e,c⟩ k=>by
  obtain⟨h,g,d,t,os⟩:=s;exact Le Y T e c k
def agx(K:Frag):Ε->Hp->VK->Prop:=λxs H Q=>∃a C d c cv b,xs=[.ref a,c]/\H a=some (XO a C d)/\((∃T,c=.ty T/\cv=Value.type T)\/∃D,c=.ref D/\cv=Value.ref D)/\Ej K C/\kitOne K (.ref C) cv=some b/\Q (.bl b) H
def aad:ig X (.builtin "isinstance") (agx X.K):=by
 intro aa s σ H xs us Q I r h;obtain⟨a,C,d,c,cv,b,rfl,ha,rc,T,e,q⟩:=h;obtain⟨u,v,rfl,ru,rv⟩:=r.two;cases ru;have e2:v=cv:=by
  rcases rc with⟨T,rfl,rfl⟩|⟨T,rfl,rfl⟩
  .exact rv
  .exact rv
 subst e2;obtain⟨⟨o,e1,e2,_⟩,_⟩:=I.hok a _ ha;exact kia_one (abx T) I.kIn ⟨o,e1,e2⟩ e (λz=>nomatch z) λtk=>⟨.bl b,H,I.tok _,rfl,q⟩
def eqF:Ε->Ε->Bool
 |[],[]=>true
 |x::xs,y::ys=>eqV x y&&eqF xs ys
 |_,_=>false
def eqH(H:Hp)(x y:V):xS :=
 match x,y with
 |.ref a,.ref b=>match H a,H b with
  |some (.tup xs),some (.tup ys)=>if xs.all N7&&ys.all N7 then some (eqF xs ys)else none
  |some (.lst xs),some (.lst ys)=>if xs.all N7&&ys.all N7 then some (eqF xs ys)else none
  |some (.lst _),some (.tup _)=>some false
  |some (.tup _),some (.lst _)=>some false
  |_,_=>none
 |.ref a,y=>if N7 y then(match H a with
  |some (.tup _)=>some false
  |some (.lst _)=>some false
  |_=>none)else none
 |x,.ref b=>if N7 x then(match H b with
  |some (.tup _)=>some false
  |some (.lst _)=>some false
  |_=>none)else none
 |x,y=>if abP x y then some (decide (x=y))else none
def Inv.tupIs(I:Inv X aa σ H s)(h:H a=some (.tup xs)):∃its,z5 xs its/\IsTup s.heap a its.toArray/\s.heap.IsTuple a its.toArray:=by
 obtain⟨its,rv,ht,_⟩:=I.tuple (SqT.of h);exact⟨its,rv,ht,ht⟩
def Inv.lstIs(I:Inv X aa σ H s)(h:H a=some (.lst xs)):∃its,z5 xs its/\s.heap.IsList a its.toArray:=by
 obtain⟨its,rv,ht,_⟩:=I.list (SqL.of h);exact⟨its,rv,ht.isList⟩
open PySem.SeqAt in
section
variable{X:Cx}
structure PSB(X:Cx)(st:Stmt)(t:TS):Prop where
 out:PS X st t
structure adX(X:Cx)(b:xB)(t:TS):Prop where
 out:PSs X b t
def Oc{rest:xB}{t u:TS}(h1:PSB X st t)(h2:adX X rest u):adX X (st::rest) (aeS t u):=⟨wJ h1.out h2.out⟩
end
def Fun.okB{k:Nat}(F:Fun K x ah st f fd)(S:bK N ps (bG st))(len:∀vs H Q E,sp vs H Q E->vs.length=ps.length)
 (bg:∀(ai:Value)(A:Around)(outer:xl)(s:Shared)(H:Hp)(vs:Ε)(Q:VK)(E:XK),dH k (A.deeper (envOfC ah (bG st) s.heap.objs.size f ai))->sp vs H Q E ->
   ∃t,adX (Dg CX0 P w K mg base N ah (bG st) f ai A outer s H E).nox (fJ st) t/\t { nx:=λ_ H'=>Q .non H',rt:=Q } (L2.start N vs) H):d9 P w K mg base CX0 (k+1) f fd ps sp :=
 F.ok S len λai A outer s H vs Q E hr eW=>let⟨t,h1,h2⟩:=bg ai A outer s H vs Q E hr eW;⟨t,h1.out,h2⟩
mutual
inductive Shows(H:Hp):V->PyData->Prop
 |non:Shows H .non .none
 |bl (b:Bool):Shows H (.bl b) (.bool b)
 |int (i:Int):Shows H (.int i) (.int i)
 |str (x:Str):Shows H (.str x) (.str x)
 |lst {a:Addr}{xs:Ε}{ds:xa} : H a=some (.lst xs)->gB H xs ds->Shows H (.ref a) (.list ds)
 |tup {a:Addr}{xs:Ε}{ds:xa} : H a=some (.tup xs)->gB H xs ds->Shows H (.ref a) (.tuple ds)
inductive gB(H:Hp):Ε->xa->Prop
 |nil:gB H [] []
 |cons {x:V}{xs:Ε}{d:PyData}{ds:xa} : Shows H x d->gB H xs ds->gB H (x::xs) (d::ds)
end
mutual
theorem Shows.same{H H':Hp}(S:z0 H H'):∀{x:V}{d:PyData},Shows H x d->Shows H' x d
 |_,_,.non=>.non
 |_,_,.bl b=>.bl b
 |_,_,.int i=>.int i
 |_,_,.str x=>.str x
 |_,_,.lst e h=>.lst (S _ _ e) (gB.same S h)
 |_,_,.tup e h=>.tup (S _ _ e) (gB.same S h)
theorem gB.same{H H':Hp}(S:z0 H H'):∀{xs:Ε}{ds:xa},gB H xs ds->gB H' xs ds
 |_,_,.nil=>.nil
 |_,_,.cons h t=>.cons (Shows.same S h) (gB.same S t)
end
theorem gB.ints(H:Hp):∀ns:xy,gB H (ns.map V.int) (ns.map PyData.int)
 |[]=>.nil
 |n::ns=>.cons (.int n) (gB.ints H ns)
mutual
theorem Inv.reads(I:Inv X aa σ H s):∀{x:V}{d:PyData}{v:Value},Shows H x d->z4 x v->∃as,Reads s.heap v d as
 |_,_,_,.non,r=>by cases r;exact⟨_,.none⟩
 |_,_,_,.bl b,r=>by cases r;exact⟨_,.bool b⟩
 |_,_,_,.int i,r=>by obtain⟨t,rfl⟩:=r;exact⟨_,.int i t⟩
 |_,_,_,.str x,r=>by obtain⟨t,rfl⟩:=r;exact⟨_,.str x t⟩
 |_,_,_,.lst e h,r=>by
  cases r;obtain⟨its,rv,⟨o,ho,hc,n,hd⟩⟩:=I.lstIs e;obtain⟨as,q⟩:=Inv.readsAll I h rv;exact⟨_,.list ho hc hd q⟩
 |_,_,_,.tup e h,r=>by
  cases r;obtain⟨its,rv,_,⟨o,ho,hc,n,hd⟩⟩:=I.tupIs e;obtain⟨as,q⟩:=Inv.readsAll I h rv;exact⟨_,.tuple ho hc hd q⟩
theorem Inv.readsAll(I:Inv X aa σ H s):∀{xs:Ε}{ds:xa}{vs:Δ},gB H xs ds->z5 xs vs->∃as,ReadsAll s.heap vs ds as
 |_,_,_,.nil,r=>by cases r;exact⟨_,.nil⟩
 |_,_,_,.cons h t,r=>by
  cases r with
  |cons r1 r2 =>
   obtain⟨a,q1⟩:=Inv.reads I h r1;obtain⟨b,q2⟩:=Inv.readsAll I t r2;exact⟨_,.cons q1 q2⟩
end
def alI:Ε->Hp->VK->Prop:=λxs H Q=>∃(l:Addr)(ns:xy),xs=[.ref l]/\H l=some (.lst (ns.map V.int))/\Q (.int ns.sum) H
def ZG(hc:X.calm=true):ig X (.builtin "sum") alI:=by
 intro aa s σ H xs us Q I r h;obtain⟨l,ns,rfl,hl,q⟩:=h;obtain⟨u,rfl,ru⟩:=r.one;cases ru;obtain⟨its,rv,p⟩:=I.lstIs hl;have hI:=intsAre_of rv;obtain⟨xs,e⟩:=hI.allInts.items;have hn:=hI.numsOf;rw[show its=its.toArray.toList from rfl,e,nums_intItems]at hn;rw[e]at p;refine sum_intListG (I.ok.hd hc) p λh' tk t' k=>⟨.int ns.sum,H,I.kept k,?_,q⟩;rw[preSum_eq,QY wr,hn];exact⟨_,rfl⟩
def tM(t:TE):TE:=λσ H Q=>∃R:VK,t σ H R/\∀x H',R x H'->Q x H'
def tMA(t:TA):TA:=λσ H Q=>∃R:Ε->Hp->Prop,t σ H R/\∀x H',R x H'->Q x H'
def PE.mono{a:Expr}{t:TE}(h:PE X a t):PE X a (tM t):=λaa s σ H Q I ⟨R,h1,h2⟩ =>
 thn (h aa s σ H R I h1) λv s' hP=>by obtain⟨x,H',I',r,q⟩:=hP;exact⟨x,H',I',r,h2 x H' q⟩
variable{t:TA}{ag af:Pos}{tg l a8 iter:Expr}{tl te:TE}{v:V}{tc:TT}{wi:TI}{ext:Addr->xw}{fn:Str->Bool}{az:ze}{gt:TG}
def PA.mono(h:PA X es t):PA X es (tMA t):=λpos aa s σ H Q I ⟨R,h1,h2⟩ =>
 thn (h pos aa s σ H R I h1) λv s' hP=>by obtain⟨x,H',I',r,q⟩:=hP;exact⟨x,H',I',r,h2 x H' q⟩
def PE.imp{a:Expr}{t t':TE}(h:PE X a t)(i:∀σ H Q,t' σ H Q->t σ H Q):PE X a t':=λaa s σ H Q I q=>h aa s σ H Q I (i σ H Q q)
def apt(to:TE)(t:TA):TE:=λσ H Q=>to σ H λx H1=>∃l xs,x=.ref l/\H1 l=some (.lst xs)/\t σ H1 λvs H2=>∃y ys,vs=[y]/\H2 l=some (.lst ys)/\ys.length<sizeLine/\Q .non (upd H2 l (.lst (ys++[y])))
abbrev qr(X:Cx)(a:Pos)(e:Expr):Prop:=((backTo a (starEach [e] X.env)).all (λx=>!x.1)&&(backToKw a (keywordEach [] X.env)).all (λx=>x.1.isSome)&&decide ([e].length+([] : xA).length+(if([] : xA).isEmpty then 0 else 1)<30))=true
def Xz{o:Expr}{to:TE}(ho:PE X o to)(ha:PA X [e] t)(hb:attributeBase o "append" X.env (eval o X.env)=eval o X.env:=by rfl)
 (hf:qr X af e:=by rfl)
 (hl:zw ag af:=by rfl)(hs:qo X e []:=by rfl)(hp:qh X af []:=by rfl) :
  PE X (.Call (.Attribute o "append" ag) [e] [] af) (apt to t):=by
 refine(agE PySem.F.plainAttrs_list PySem.F.slot_list_append PySem.F.type_list_append N5 ho.mono ha.mono hb hf hl hs hp).imp λσ H Q h=>?_;refine⟨_,h,?_⟩;rintro x H1 ⟨l,xs,rfl,hx,h2⟩;refine⟨.inl ⟨rfl,_,SqL.of hx⟩,_,h2,?_⟩;rintro vs H2 ⟨y,ys,rfl,hy,hz,q⟩;exact⟨l,ys,y,rfl,rfl,hy,hz,q⟩
def aiT:Ε->Hp->VK->Prop:=λxs H Q=>∃p ys,xs=[.ref p]/\H p=some (.lst ys)/\∀l,H l=none->Q (.ref l) (upd H l (.lst ys))
def Kz:ig X (.type "list") aiT:=Pk.imp λxs H Q hP=>by obtain⟨p,ys,a,b,c⟩:=hP;exact⟨p,ys,a,.inl (.of b),c⟩
mutual
theorem WL:∀ns:xy,PyData.canLayAll0 (ns.map PyData.int)=true
 |[]=>rfl
 |n::ns=>by
  rw[List.map_cons];unfold PyData.canLayAll0;rw[WL ns];rfl
end
inductive FL(H:Hp):Ε->List Ξ->Prop
 |nil:FL H [] []
 |cons {p:Addr}{f:Ξ}{xs:Ε}{fs:List Ξ} : H p=some (.tup [.int f.1,.int f.2])->FL H xs fs->FL H (.ref p::xs) (f::fs)
def Its(x:Str):It:=⟨λi _=>i<x.cps.size,λi H v H'=>H'=H/\∃c,x.cps[i]?=some c/\v=.str ⟨#[c]⟩,λi _=>i=x.cps.size⟩
def Vx(it:Addr)(x:Str)(t:Tok)(ty:String)(kn : ["enumerate","zip","dict_itemiterator","dict_reverseitemiterator","odict_iterator","itertools.zip_longest","itertools.pairwise"].contains ty=false)
 (W:∀A:Around,A.handled=none->Walks P w A it [it] [it] x.cps.size (SignAt x) (λi h=>h.IsStrIter it ty x t i))
 (kr:∀(A:Around)(i:Nat)(s:Shared)(Q:Β)(E:Β),s.heap.IsStrIter it ty x t i->Q (.ref it) s->wpAny (model P w) A (pyIter (.ref it)) Q E s):Turn P w K tg (Its x) [it] it (λi h=>h.IsStrIter it ty x t i) where
 mem:=by simp
 obj:=λi h st b hb=>by
  have e:b=it:=by simpa using hb
  subst e;obtain⟨o,ho,_,hd⟩:=st;exact⟨o,ho,λv z=>by rw[hd]at z;cases z⟩
 keep:=λi h h' st k=>let⟨o,ho,r⟩:=st;⟨o,k it wr o ho,r⟩
 item:=by
  intro X hP hw hK hc i aa s σ H E I hf st hg;subst hP hw hK;obtain⟨f0,f1,f2,f3,f4,f5⟩:=hf it wr;refine(W X.A (I.ok.hd hc)).item i s _ _ hg st λv h' tk hv dP kk=>?_;obtain⟨c,u,hx,rfl⟩:=hv;have I1:Inv X aa σ H { s with heap:=h',toks:=tk }:=I.turned (λb o hb e=>kk b o (by simpa using hb) e) f0 f1 f3 f4 f5;obtain⟨o,ho,iN,hd⟩:=id dP;exact⟨_,rfl,YJ (s:={ s with heap:=h',toks:=tk }) ho iN hd kn ⟨.str ⟨#[c]⟩,H,I1,⟨u,rfl⟩,⟨rfl,c,hx,rfl⟩,dP,λb hb=>(hf b hb).1⟩⟩
 done:=by
  intro X hP hw hK hc i aa s σ H E I hf st hg;subst hP hw hK;obtain⟨f0,f1,f2,f3,f4,f5⟩:=hf it wr;have kA:i=x.cps.size:=hg;subst kA;exact(W X.A (I.ok.hd hc)).done s _ _ st λh' tk kk=>⟨rfl,I.turned (λb o hb e=>kk b o (by simpa using hb) e) f0 f1 f3 f4 f5⟩
 self:=kr
def aox(te:TE):TI:=λσ H R=>te σ H λv H1=>∃x,v=.str x/\R (Its x) H1
def ai5(hl:PE X l tl):PI X tg l (aox tl):=by
 intro aa s σ H R I h;refine thn (hl aa s σ H _ I h) λv s1 hP=>?_;obtain⟨x,H1,I1,r1,y,ey,q⟩:=hP;subst ey;obtain⟨t,rfl⟩:=r1;have fp:∀b∈[s1.heap.objs.size],G6 X aa H1 b:=λb hb=>by
  have e:b=s1.heap.objs.size:=by simpa using hb
  subst e;exact I1.fpOk (aG _) (I1.hok.fresh (aG _))
 have k:∀o:Obj,Inv X aa σ H1 { s1 with heap:=s1.heap.push o }:=λo=>I1.kept (t':=s1.toks) λb ob z=>aH _ z;cases ha:y.cps.all (· < 128)
 .exact wpAny_pyIter_wide ha ⟨s1.heap.objs.size,[s1.heap.objs.size],_,Its y,H1,rfl,k _,Vx _ y t "str_iterator" wp (λA hA=>Walks.strWide hA _ y t) (λA i s Q E st h=>wpAny_pyIter_striter_wide st h),⟨_,aW _ rfl,rfl,rfl⟩,fp,q⟩
 .exact wpAny_pyIter_ascii ha ⟨s1.heap.objs.size,[s1.heap.objs.size],_,Its y,H1,rfl,k _,Vx _ y t "str_ascii_iterator" wp (λA hA=>Walks.strAscii hA _ y t) (λA i s Q E st h=>wpAny_pyIter_striter_ascii st h),⟨_,aW _ rfl,rfl,rfl⟩,fp,q⟩
def GZ(x:Str)(lo hi:xz):Str:=⟨((x.cps.toList.drop (HT.sIx x.length 0 lo)).take (HT.sIx x.length x.length hi-HT.sIx x.length 0 lo)).toArray⟩
def strIdx(lo hi:xz)(n:Nat):Builtin.Str.strSliceIndices lo hi 1 n=(List.range (HT.sIx n n hi-HT.sIx n 0 lo)).map (HT.sIx n 0 lo + ·):=by
 rw[<- sliceRange_one];unfold Builtin.Str.strSliceIndices;have h1:∀(o:xz)(d:Nat),d<=n->(match o with
   |none=>(d:Int)
   |some i=>(let i:=if i<0 then i+(n:Int)else i;if(1:Int)>0 then max 0 (min i n)else max (-1) (min i (n-1))))=((HT.sIx n d o:Nat):Int):=by
  intro o d hd;cases o with
  |none=>rfl
  |some i =>
   simp only[HT.sIx,show(1:Int)>0 by decide,if_true];by_cases h:i<0
   .simp only[h,if_true]<;>lia
   .simp only[h,if_false]<;>lia
 have e1:=h1 lo 0 (aZ _);have e2:=h1 hi n (aG _);simp only[show(1:Int)>0 by decide,if_true]at e1 e2 ⊢;rw[<- e1,<- e2]
 rfl
def afW(x:Str)(lo hi:xz):(⟨((Builtin.Str.strSliceIndices lo hi 1 x.length).filterMap (x.cps[·]?)).toArray⟩ : Str)=GZ x lo hi:=by
 rw[strIdx,pick_run];rfl
def Wf(x:Str)(lo hi:xz)(h:(Builtin.Str.strSliceIndices lo hi 1 x.length).length=x.length):GZ x lo hi=x:=by
 rw[strIdx,ak,WP]at h;have h2:=HT.agN x.length x.length (aG _) hi;unfold GZ;have hx:x.length=x.cps.size:=rfl;have e:x.cps.toList.length=x.length:=by simp[hx]
 by_cases z:x.length=0
 .have:x.cps.toList=[]:=List.length_eq_zero_iff.mp (Eq.trans e z);rw[this];obtain⟨⟨l⟩⟩:=x;simp at this;subst this;simp
 .have e0:HT.sIx x.length 0 lo=0:=by lia
  rw[e0,List.drop_zero,QY wo]
def apd:V->xz->xz->Hp->VK->Prop:=λx lo hi H Q=>∃y,x=.str y/\y.length<=sizeLine/\Q (.str (GZ y lo hi)) H
def part_of{v:Value}{o:xz}(h:IsPart v o):∃l:Option (Int×Tok),v=partValue l/\l.map (·.1)=o:=by
 cases h with
 |none=>exact⟨none,rfl,rfl⟩
 |int i t=>exact⟨some (i,t),rfl,rfl⟩
def ahw{X:Cx} : SlR X apd:=by
 intro aa s σ H x v vl vu lo hi sl Q I rx hs pl pu h;obtain⟨y,rfl,hz,q⟩:=h;obtain⟨t,rfl⟩:=rx;obtain⟨l,rfl,el⟩:=part_of pl;obtain⟨u,rfl,eu⟩:=part_of pu;refine⟨"str",_,F.slot_str_getitem.lookup,typeIs_str s y t,wpAny_getItem_str_slice (l:=l) (u:=u) (st:=none) hs rfl ?_⟩;unfold sliceMade slicePicked;rw[el,eu];split
 .rename_i hw
  have kX:=(Bool.and_eq_true_iff.mp hw).2;rw[beq_iff_eq]at kX;have e:=Wf y lo hi kX;rw[e]at q;exact⟨.str y,H,I,⟨t,rfl⟩,q⟩
 .have e:=afW y lo hi;refine⟨?_,.str (GZ y lo hi),H,I.tok _,⟨s.toks,?_⟩,q⟩
  .refine aL ?_ hz;refine aL (WG (ZH Str.length e)) ?_;show((y.cps.toList.drop _).take _).toArray.size<=y.cps.size;rw[aX,aY,UZ,Array.length_toList];lia
  .rw[<- e];rfl
def ake:R2:=λx y H Q=>∃i j,x=.str i/\y=.str j/\i.length+j.length<=sizeLine/\Q (.str (i++j)) H
def aeD:OpR X (binaryOp .Add) ake:=W8
def aoE:R2:=λx y H Q=>∃i j,x=.str i/\y=.str j/\Q (.bl (!decide (j.cps.toList<i.cps.toList))) H
def aiF:OpR X (compareOp .LtE) aoE:=by
 intro aa s σ H x y v u Q I rx ry h;obtain⟨i,j,rfl,rfl,q⟩:=h;obtain⟨t,rfl⟩:=rx;obtain⟨t',rfl⟩:=ry;exact PySem.P.le_str (dJ I q rfl)
def OpR.imp{f:Value->Value->Sem Value}{r r':R2}(h:OpR X f r)(i:∀x y H Q,r' x y H Q->r x y H Q):OpR X f r':=λaa s σ H x y v u Q I rx ry q=>h aa s σ H x y v u Q I rx ry (i _ _ _ _ q)
theorem Eo:∀{bs:xk}{us:Δ},z5 (bs.map V.bl) us->∀(i:Nat)(v:Value),us[i]?=some v->∃b,bs[i]?=some b/\v=.bool b
 |[],_,.nil,i,v,h=>by cases i<;>cases h
 |b::bs,_,.cons r t,0,v,h=>by
  rw[List.getElem?_cons_zero]at h;cases h;exact⟨b,rfl,r⟩
 |b::bs,_,.cons r t,i+1,v,h=>by
  rw[List.getElem?_cons_succ]at h;exact Eo t i v h
def ana:Ε->Hp->VK->Prop:=λxs H Q=>∃(l:Addr)(bs:xk),xs=[.ref l]/\H l=some (.lst (bs.map V.bl))/\Q (.bl (bs.all id)) H
theorem vC:∀bs:xk,((List.range bs.length).all λi=>(bs[i]?).getD true)=bs.all id
 |[]=>rfl
 |b::bs=>by
  rw[List.length_cons,List.range_succ_eq_map,List.all_cons,List.all_map,List.all_cons];have:=vC bs;simp only[Function.comp_def,List.getElem?_cons_succ,List.getElem?_cons_zero,Option.getD_some,id]at this ⊢;rw[this]
def ZD(hc:X.calm=true):ig X (.builtin "all") ana:=by
 intro aa s σ H xs us Q I r h;obtain⟨l,bs,rfl,hl,q⟩:=h;obtain⟨u,rfl,ru⟩:=r.one;cases ru;obtain⟨its,rv,p⟩:=I.lstIs hl;have eT:l<s.heap.objs.size:=by obtain⟨_,e,_⟩:=p;exact aK e
 refine call_all_walk (wpAny_pyIter_list p ?_);refine⟨s.heap.objs.size,[s.heap.objs.size,l],[s.heap.objs.size],its.toArray.size,_,_,λi=>(bs[i]?).getD true,rfl,Walks.list (A:=X.A.in1) (I.ok.hd hc) _ l (aQ eT) its.toArray,
  ⟨⟨_,aW _ rfl,rfl,rfl⟩,p.push _⟩,λi v s' Q' E' hP hQ=>?_,λh' tk hk=>?_⟩
 .obtain⟨b,e,rfl⟩:=Eo rv i v (by simpa using hP);simp only[e,Option.getD_some]at hQ;exact wpAny_truthy_bool hQ
 .have e:((List.range its.toArray.size).all λi=>(bs[i]?).getD true)=bs.all id:=by
   rw[aX,<- rv.length,ak];exact vC bs
  refine⟨.bl (bs.all id),H,I.kept (t':=tk) λb o q=>hk b o (λhm=>?_) (aH _ q),?_,q⟩
  .rw[YR.mp hm]at q;exact X2 _ (aK q)
  .rw[e];rfl
def tSM(r:V->Ε->Hp->VK->Prop)(to:TE)(t:TA):TE:=λσ H Q=>to σ H λx H1=>(∃y,x=.str y)/\t σ H1 λvs H2=>r x vs H2 Q
def amO{o:Expr}{to:TE}{name:Str}{id:String}{r:V->Ε->Hp->VK->Prop}(slot:Slot "str" name id)(kn:typeOf (.builtin id)=pure (.type "method_descriptor"))(hm:MtM X id r)(ho:PE X o to)(ha:PA X [e] t)
 (hb:qB X o name:=by rfl)
 (hf:qr X af e:=by rfl)
 (hl:zw ag af:=by rfl)(hs:qo X e []:=by rfl)(hp:qh X af []:=by rfl) :
  PE X (.Call (.Attribute o name ag) [e] [] af) (tSM r to t):=by
 refine(agE PySem.F.plainAttrs_str slot kn hm ho.mono ha hb hf hl hs hp).imp λσ H Q h=>?_;refine⟨_,h,?_⟩;rintro x H1 ⟨⟨y,rfl⟩,h2⟩;exact⟨rfl,h2⟩
def adQ(hg:Gl X x)(hm:∃u,X.mg x=some u/\z4 v u)(hd:qk x:=by decide):PE X (.Name x pos) (tC v):=by
 obtain⟨u,h1,h2⟩:=hm;exact PN hg h1 h2 hd
def UW{t:TS}(h1:PSB X st t):adX X [st] t:=⟨uE h1.out⟩
def hid(y:Str):Str:=Str.ofString "?"++y
def Nv(xs:Θ)(N:Θ):Θ:=N.map λy=>if y∈xs then hid y else y
def Cx.compG(X:Cx)(N':Θ)(scope:Scope)(xs:Θ)(C:Addr)(s₀:Shared)(H₀:Hp)(ex:Φ)(pn:Γ):Cx :=
 { X with env:=compEnvC scope (uz X.env.cells scope.names []) C X.env,N:=xs++N',s₀:=s₀,H₀:=H₀,outer:=X.stack,ex:=ex,fn:=λ_=>false,pn:=pn,xe:=λ_ _=>False }
def PTs(X:Cx)(az:ze)(tc:TT):Prop:=∀(aa:Γ)(s:Shared)(σ:L2.St)(H:Hp)(Q:Bool->Hp->Prop),Inv X aa σ H s->tc σ H Q ->
 wpAny (model X.prog X.w) X.A (forIn az true λc r=>if r=true then do let ok <- isTrue c X.env (eval c X.env);pure (ForInStep.yield ok)else pure (ForInStep.yield r)) (λb s'=>∃H',Inv X aa σ H' s'/\Q b H') X.xe s
def aon:TT:=λ_ H Q=>Q true H
def ad5{X:Cx} : PTs X [] aon:=λ_ _ _ H _ I q=>wpAny_tests_nil ⟨H,I,q⟩
def afg{X:Cx}{c:Expr}(h:PT X c tc):PTs X [c] tc:=λaa s σ H Q I q=>wpAny_tests_one (h aa s σ H Q I q)
def sS(wi:TI)(n:Nat)(gt:TG)(tc:TT)(te:TE):TE:=λσ H Q=>wi σ H λJ H1=>∀D,H1 D=none->∃W:Nat->Nat->Ε->Hp->Prop,(∃m,W 0 m [] (upd H1 D (.lst [])))/\∀i m ys Hc,W i m ys Hc ->
 (J.stop i Hc/\Q (.ref D) Hc)\/(J.go i Hc/\∀x H',J.yld i Hc x H'->∀pre:L2.St,pre.length=n->gt x (pre++σ) H' λσ2 H2=>∃b6:L2.St,b6.length=n/\σ2=b6++σ/\tc σ2 H2 λb H3 =>
  match b with
  |true=>te σ2 H3 λy H4=>ys.length<sizeLine/\H4 D=some (.lst ys)/\∃m',m'<m/\W (i+1) m' (ys++[y]) (upd H4 D (.lst (ys++[y])))
  |false=>∃m',m'<m/\W (i+1) m' ys H3)
def Cx.compE(X:Cx)(ext:Addr->xw)(fn:Str->Bool)(N':Θ)(scope:Scope)(xs:Θ)(C:Addr)(s₀:Shared)(H₀:Hp)(ex:Φ)(pn:Γ):Cx :=
 { X with env:=compEnvC scope (ext C++uz X.env.cells scope.names []) C X.env,N:=xs++N',s₀:=s₀,H₀:=H₀,outer:=X.stack,ex:=ex,fn:=fn,pn:=pn,xe:=λ_ _=>False }
structure TQ(X:Cx)(scope:Scope)(xs:Θ)(ext:Addr->xw)(fn:Str->Bool):Prop where
 new:∀{M:Model}{A:Around}{E:Β}{s:Shared}{globals:Addr}{bE:xw}{ah:Str}{outer:Env}{Q:Env->Shared->Prop},(∀g,g.Ns s.heap.objs.size (λx=>([] : xh).reverse.lookup x)->(∀y c,(ext s.heap.objs.size).lookup y=some c->g.IsCell c none)->(∀b o,s.heap.get? b=some o->g.get? b=some o)->Q (newEnv scope s.heap.objs.size globals (ext s.heap.objs.size++bE) ah none .none (some outer) builtinsNs) { s with heap:=g,toks:=s.toks+([] : xh).length }) ->
  wpAny M A (newFunctionEnv scope globals bE [] ah none .none (some outer)) Q E s
 up:∀C y c,(ext C).lookup y=some c->C<c
 one:∀C y z c,(ext C).lookup y=some c->(ext C).lookup z=some c->y=z
 nw:∀C y,fn y=true->∃c,(ext C).lookup y=some c
 off:∀C y,y∉xs->(ext C).lookup y=none
 kd:∀C y,((relabel scope X.env).names.lookup y=some .cell\/(relabel scope X.env).names.lookup y=some .free)->(∃c,(ext C).lookup y=some c)\/(y,NameKind.free)∈scope.names
def al9{X:Cx}{xs:Θ}(hk:scope.kind=.function)(c6:∀y∈scope.names,y.2≠.cell):TQ X scope xs (λ_=>[]) (λ_=>false) :=
 ⟨λhQ=>wpAny_newFunctionEnv c6 (by intro y hy;simp at hy) (λg eM hsb=>hQ g eM (λ_ _ z=>(nomatch z)) λb o e=>(hsb.2 b (aQ (aK e))).trans (aH _ e)) hk,λ_ _ _ z=>(nomatch z),λ_ _ _ _ z=>(nomatch z),λ_ _ z=>(nomatch z),λ_ _ _=>rfl,λ_ _ e=>.inr (CT e c6)⟩
def Oa{use:Option (Value->Sem Unit)}{post:Β}{Qv:VK}{pp:Pos}{xs N':Θ}(E:TQ X scope xs ext fn)(hc:X.calm=true)(g6:Nv xs X.N=N')(ck:scope.kind=.function)(c5:∀y∈scope.names,y.2=.local->scope.names.lookup y.1=some .local)
 (cb:∀y∈scope.names,y.2=.free->X.env.kindOf y.1=some .cell\/X.env.kindOf y.1=some .free)(fq:∀y∈X.N,y∉xs->(relabel scope X.env).names.lookup y≠some .local)(hq:∀y∈X.N,y∈xs->(relabel scope X.env).names.lookup (hid y)=none)(hi:PI X tg iter wi)
 (hg:∀C s₀ H₀ ex pn,PG (X.compE ext fn N' scope xs C s₀ H₀ ex pn) tg gt)(ht:∀C s₀ H₀ ex pn,PTs (X.compE ext fn N' scope xs C s₀ H₀ ex pn) az tc)(he:∀C s₀ H₀ ex pn,PE (X.compE ext fn N' scope xs C s₀ H₀ ex pn) a8 te)(hs:qV X iter)(I:Inv X aa σ H s)(h:sS wi xs.length gt tc te σ H Qv)
 (pS:∀(C D:Addr)(Hc:Hp)(s6:Shared)(m:Str->Ψ)(fl:Flow),s6.heap.Ns C m->Inv X aa σ Hc s6->G6 X aa Hc C->Qv (.ref D) Hc->compPost (model X.prog X.w) X.A X.xe use post (.ref D) C (.ok fl) s6) :
  wpAny (model X.prog X.w) X.A (comprehension (.ListComp a8 [⟨tg,iter,az,0⟩] scope pos) scope X.env pp (newList []) false (eval iter X.env) use) post X.xe s:=by
 have dL:∀y∈scope.names,y.2=.free->∃c,X.env.cells.lookup y.1=some c:=λy hy e=>I.ok.has y.1 (cb y hy e);refine wpAny_comprehension_free (use:=use) (Q:=post) rfl hs (VN dL) ck c5 (thn (hi aa s σ H _ I h) λv s1 h1=>thn h1 λmM s2 h2=>?_);obtain⟨it,fp,tn,J,H2,e,I2,T,fN,f2,R⟩:=h2;subst e;have nD:H2 s2.heap.objs.size=none:=I2.hok.fresh (aG _);obtain⟨W,⟨m0,w0⟩,turn⟩:=R s2.heap.objs.size nD;refine wpAny_newObj_type ?_ (by show 0<=sizeLine;exact aZ _);have I3:Inv X aa σ (upd H2 s2.heap.objs.size (.lst [])) { s2 with heap:=s2.heap.push { cls:=.type "list",dict:=none,data:=.seq ([] : Δ).toArray } }:=I2.lnew (t':=s2.toks) (ys:=[]) (its:=[]) .nil (aZ _);have mr:∀b o,s2.heap.get? b=some o->(s2.heap.push { cls:=.type "list",dict:=none,data:=.seq ([] : Δ).toArray }).get? b=some o:=λb o e=>aH _ e;generalize hs3:({ s2 with heap:=s2.heap.push { cls:=.type "list",dict:=none,data:=.seq ([] : Δ).toArray } } : Shared)=s3 at I3 ⊢;have iX:tn 0 s3.heap:=T.keep _ _ _ fN λb _ o e=>by rw[<- hs3];exact mr b o e
 generalize hH3:upd H2 s2.heap.objs.size (.lst [])=H3 at I3 w0;have f3:∀b∈fp,G6 X aa H3 b:=λb hb=>by
  obtain⟨a1,a2⟩:=f2 b hb;refine⟨?_,a2⟩;obtain⟨o,e,_⟩:=T.obj _ _ fN b hb;rwa[<- hH3,bU (aQ (aK e))]
 refine E.new λg eM iN kg=>?_;have clm:∀{y:Str}{c:Addr},(uz X.env.cells scope.names []).lookup y=some c->X.env.cells.lookup y=some c:=λ{y c}e=>by
  rcases Ur dL (PySem.mem_of_lookup e)with z|z
  .cases z
  .exact z
 have g4:∀{y:Str},(ext s3.heap.objs.size).lookup y=none->((relabel scope X.env).names.lookup y=some .cell\/(relabel scope X.env).names.lookup y=some .free)->(X.env.kindOf y=some .cell\/X.env.kindOf y=some .free)/\∃c,(ext s3.heap.objs.size++uz X.env.cells scope.names []).lookup y=some c/\X.env.cells.lookup y=some c:=λ{y}ny e=>by
  rcases E.kd s3.heap.objs.size y e with⟨c,z⟩|z
  .rw[ny]at z;cases z
  .obtain⟨c,dk⟩:=S_ (cells:=X.env.cells) (acc:=[]) (.inl z);obtain⟨c,dk⟩:=qF dk;exact⟨cb _ z rfl,c,by rw[List.lookup_append,ny];exact dk,clm dk⟩
 have kM:∀{y:Str}{c:Addr},(ext s3.heap.objs.size++uz X.env.cells scope.names []).lookup y=some c->(ext s3.heap.objs.size).lookup y=some c\/X.env.cells.lookup y=some c:=λ{y c}e=>by
  rw[List.lookup_append]at e;cases hy:(ext s3.heap.objs.size).lookup y with
  |some d=>rw[hy]at e;exact .inl e
  |none=>rw[hy]at e;exact .inr (clm e)
 have cll:∀{y z c},(ext s3.heap.objs.size).lookup z=some c->¬X.env.cells.lookup y=some c:=λ{y z c}e1 e=>by
  obtain⟨v,o,h1,_⟩:=I3.cell y c e;exact X2 _ (Th (aK h1) (E.up _ _ _ e1))
 have my:∀b∈fp,b<s3.heap.objs.size:=λb hb=>by
  obtain⟨o,e,_⟩:=T.obj _ _ iX b hb;exact aK e
 have nst:∀b∈fp,b∉frs X.stack:=λb hb=>I3.nostk' (f3 b hb).2.1 (f3 b hb).2.2.1;have cfp:∀b∈fp,∀y c,(ext s3.heap.objs.size++uz X.env.cells scope.names []).lookup y=some c->c≠b:=λb hb y c e=>by
  rcases kM e with z|z
  .exact VV (Th (my b hb) (E.up _ _ _ z))
  .exact(f3 b hb).2.2.2.2.1 y c z
 generalize hX:X.compE ext fn N' scope xs s3.heap.objs.size s3 H3 fp (X.pn++aa)=Y;have ok':Y.Ok:=by
  subst hX;exact⟨I3.ok.mod,ck,I3.ok.glob,I3.ok.blt,aG _,λy z c h1 h2=>by
    rcases kM h1 with e1|e1<;>rcases kM h2 with e2|e2
    .exact E.one _ _ _ _ e1 e2
    .exact absurd e2 (cll e1)
    .exact absurd e1 (cll e2)
    .exact I3.ok.inj y z c e1 e2,λy hy=>by
    cases hz:(ext s3.heap.objs.size).lookup y with
    |some c=>exact⟨c,List.lookup_append.trans (by rw[hz];rfl)⟩
    |none=>exact let⟨_,c,q,_⟩:=g4 hz hy;⟨c,q⟩,λy c kB e=>by
    obtain⟨d,z⟩:=E.nw s3.heap.objs.size y kB;have e:(ext s3.heap.objs.size++uz X.env.cells scope.names []).lookup y=some c:=e;rw[List.lookup_append,z]at e;cases e;exact Y2 (E.up _ _ _ z),I3.ok.hd,I3.ok.frames,.inl rfl,
   λb hb=>⟨aQ (my b hb),cfp b hb⟩,I3.bs,aL I3.ok.bsz I3.sz,λb o e hb=>by
    rcases(f3 b hb).2.2.2.1 with z|z
    .exact I3.ok.noex b o e z
    .exact absurd (aR (aR (aK e) I3.ok.bsz) z) (X2 _),nst,I3.stack,I3.stkFree⟩
 have J4:∀tk,Inv Y [] (List.replicate xs.length none++σ) H3 { s3 with heap:=g,toks:=tk }:=λtk=>by
  subst hX;refine⟨ok',rfl,I3.bare,Un.kept kg,⟨_,eM,λi y v e1 e2 e3=>?_⟩,λy c e=>?_,I3.hok.fresh (aG _),λy c e=>(kM e).elim (λz=>I3.hok.fresh (Y2 (E.up _ _ _ z))) (I3.freeC y c),λp hp=>?_,I3.hok.kept kg,?_⟩
  .by_cases kz:i<xs.length
   .rw[aF (by rwa[aN]),XG,ZY kz]at e2;cases e2
   .obtain⟨j,rfl⟩ : ∃j,i=xs.length+j:=⟨i-xs.length,by lia⟩;have e0:N'[j]?=some y:=by
     have e1:(xs++N')[xs.length+j]?=some y:=e1;rw[aD (X1 _ _)]at e1;rw[show xs.length+j-xs.length=j by exact TW _ _]at e1;exact e1
    have lb:σ[j]?=some (some v):=by
     rw[aD (by rw[aN];exact X1 _ _),aN]at e2;rw[show xs.length+j-xs.length=j by exact TW _ _]at e2;exact e2
    rw[<- g6]at e0;obtain⟨y0,gE,ey⟩ : ∃y0,X.N[j]?=some y0/\(if y0∈xs then hid y0 else y0)=y:=by
     unfold Nv at e0;rw[aq]at e0;cases hz:X.N[j]? with
     |none=>rw[hz]at e0;cases e0
     |some y0=>rw[hz]at e0;exact⟨y0,rfl,Option.some.inj e0⟩
    have e3:(relabel scope X.env).names.lookup y=some .local\/(relabel scope X.env).names.lookup y=some .cell\/(relabel scope X.env).names.lookup y=some .free:=e3;have ne:¬y0∈xs:=λz=>by
     rw[ZY z]at ey;subst ey;rw[hq y0 (aC gE) z]at e3;rcases e3 with z|z|z<;>cases z
    rw[ZZ ne]at ey;subst ey;have e3':(relabel scope X.env).names.lookup y0=some .cell\/(relabel scope X.env).names.lookup y0=some .free:=by
     rcases e3 with z|z
     .exact absurd z (fq y0 (aC gE) ne)
     .exact z
    obtain⟨kd,c,iN,k9⟩:=g4 (E.off _ _ ne) e3';obtain⟨m,_,hl⟩:=I3.loc;obtain⟨u,r,lk⟩:=hl j y0 v gE lb (.inr kd);refine⟨u,r,.inr ⟨e3',c,iN,?_⟩⟩;rcases lk with⟨k1,_⟩|⟨_,c',q1,o,q2,q3⟩
    .exfalso;have k1':X.env.kindOf y0=some .local:=k1;rcases kd with k2|k2<;>rw[k1']at k2<;>cases k2
    .rw[k9]at q1;cases q1;exact⟨o,kg _ _ q2,q3⟩
  .rcases kM e with z|z
   .exact⟨none,iN y c z⟩
   .obtain⟨v,o,q2,q3⟩:=I3.cell y c z;exact⟨v,o,kg _ _ q2,q3⟩
  .have eK:p∈X.pn++aa:=by simpa[Cx.compE]using hp
   obtain⟨a1,a2,a3,a4,a5⟩:=I3.pin p eK;exact⟨kg _ _ a1,a2,aQ (aK a1),I3.nostk' a3 a4,a5⟩
  .show(List.replicate xs.length none++σ).length=(xs++N').length;have hJ:N'.length=X.N.length:=by rw[<- g6];unfold Nv;rw[ak]
   rw[aA,aN,aA,I3.len,hJ]
 have ph:∀{Hc:Hp},(∀b∈fp,Hc b=none)->∀b∈fp,G6 Y [] Hc b:=λ{Hc}hn b hb=>by
  subst hX;exact⟨hn b hb,aQ (my b hb),nst b hb,.inl hb,cfp b hb,λp hp=>(f3 b hb).2.2.2.2.2 p (by simpa[Cx.compE]using hp)⟩
 have io:∀s4:Shared,s4={ s3 with heap:=g,toks:=s3.toks+([] : xh).length } ->
   codeAny (model X.prog X.w) X.A (.compLoop (.ListComp a8 [⟨tg,iter,az,0⟩] scope pos) 0 (.ref it) (.ref s2.heap.objs.size) Y.env) (compPost (model X.prog X.w) X.A X.xe use post (.ref s2.heap.objs.size) s3.heap.objs.size) s4:=by
  rintro s4 rfl;have YP:Y.prog=X.prog/\Y.w=X.w/\Y.K=X.K/\Y.calm=X.calm/\Y.A=X.A/\Y.env.locals=s3.heap.objs.size:=by subst hX;exact⟨rfl,rfl,rfl,rfl,rfl,rfl⟩
  obtain⟨y1,y2,y3,y4,y5,y6⟩:=YP;have he':PE Y a8 te:=by subst hX;exact he _ _ _ _ _
  have kA:PG Y tg gt:=by subst hX;exact hg _ _ _ _ _
  have ht':PTs Y az tc:=by subst hX;exact ht _ _ _ _ _
  have kP:Y.xe=λ_ _=>False:=by subst hX;rfl
  have yb:∀{Hc:Hp}{w':L2.St}{pn:Γ}{s':Shared},Inv Y pn w' Hc s'->Un (frs X.stack) fp H3 Hc s3.heap s'.heap:=λ{Hc w' pn s'}Z=>by
   have:=Z.base;subst hX;exact this
  have yos:∀{Hc:Hp}{w':L2.St}{pn:Γ}{s':Shared},Inv Y pn w' Hc s'->s'.os=s3.os:=λ{Hc w' pn s'}Z=>by
   have:=Z.os;subst hX;exact this
  refine codeAny_loop rfl (λn s'=>∃i ys Hc,∃w':L2.St,w'.length=xs.length/\Inv Y [] (w'++σ) Hc s'/\tn i s'.heap/\(∀b∈fp,Hc b=none)/\W i n ys Hc) (λn s5 hI=>?_) m0 ⟨0,[],H3,List.replicate xs.length none,aN,J4 _,T.keep _ _ _ iX λb _ o e=>kg b o e,λb hb=>(f3 b hb).1,w0⟩;obtain⟨i,ys,Hc,w',kX,Z,stc,frc,wc⟩:=hI;show wpAny _ _ ((compTurn (.ListComp a8 [⟨tg,iter,az,0⟩] scope pos) 0 (.ref it) (.ref s2.heap.objs.size) Y.env).onRaise (λz=>do noteFrame z Y.env;theTreesLotGoes z)) _ _ s5;refine wpAny_noted (wpAny_noRaise ?_);rw[compTurn_list];show wpAny (model X.prog X.w) X.A _ _ _ _;rcases turn i n ys Hc wc with⟨stop,qn⟩|⟨go,step⟩
  .have hd:=T.done Y y1 y2 y3 (y4.trans hc) i [] s5 (w'++σ) Hc (λ_ _=>False) Z (ph frc) stc stop;rw[y5]at hd;refine ZU (wpAny_standAt (ZU (thn hd λr s6 hP=>?_)));obtain⟨hr,Z6⟩:=hP;subst hr;refine ZT ?_;obtain⟨m,ku,_⟩:=Z6.loc;rw[y6]at ku;have u6:=yb Z6;have hok:HOk X.prog X.w Hc s6.heap:=by
    have z:=Z6.hok;rw[y1,y2]at z;exact z
   have cn:Hc s3.heap.objs.size=none:=by
    have z:=Z6.free;rw[y6]at z;exact z
   have I6:Inv X aa σ Hc s6:=I3.call' (s':=s6) (ch:=fp) (yos Z6) u6 hok Z6.bare λb hb=>⟨(f3 b hb).2.2.2.1,(f3 b hb).2.1,(f3 b hb).2.2.2.2.1,(f3 b hb).2.2.2.2.2⟩;have fC:G6 X aa Hc s3.heap.objs.size:=I3.fpOk (aG _) cn;exact pS _ _ Hc s6 m _ ku I6 fC qn
  .have hd:=T.item Y y1 y2 y3 (y4.trans hc) i [] s5 (w'++σ) Hc (λ_ _=>False) Z (ph frc) stc go;rw[y5]at hd;refine ZU (wpAny_standAt (ZU (thn hd λr s6 hP=>?_)));obtain⟨u,hr,h6⟩:=hP;subst hr;refine ZU (thn h6 λ_ s7 hP=>?_);obtain⟨xv,H7,Z7,r7,yl,l6,fr7⟩:=hP;have Z7':=Z7.pinned (ph fr7) (T.obj _ _ l6);have bu:=kA _ s7 _ H7 xv u _ Z7' r7 (step xv H7 yl w' kX);rw[y1,y2,y5,kP]at bu;refine ZU (thn bu λ_ s8 hP=>?_);obtain⟨σ8,H8,Z8,pre,eS,e8,q8⟩:=hP;subst e8;have hte:=ht' _ s8 _ H8 _ Z8 q8;rw[y1,y2,y5,kP]at hte;have fin:∀{m':Nat}{kN:Ε}{H9:Hp}{s9:Shared},Inv Y ([]++JG fp s7.heap) (pre++σ) H9 s9->m'<n->W (i+1) m' kN H9->∃m,m<n/\∃i ys Hc,∃w':L2.St,w'.length=xs.length/\Inv Y [] (w'++σ) Hc s9/\tn i s9.heap/\(∀b∈fp,Hc b=none)/\W i m ys Hc:=λ{m' kN H9 s9}Z9 hG w9 =>
    ⟨m',hG,i+1,kN,H9,pre,eS,Z9.unpinned,T.keep _ _ _ l6 λb hb o e=>(Z9.pin (b,o) (aP _ (aP _ (qL hb e)))).1,λb hb=>by
     obtain⟨o,e,_⟩:=T.obj _ _ l6 b hb;exact(Z9.pin (b,o) (aP _ (aP _ (qL hb e)))).2.1,w9⟩
   refine ZU (thn hte λok s9 hP=>?_);obtain⟨H9,Z9,q9⟩:=hP;cases ok with
   |false =>
    obtain⟨m',hG,w9⟩:=q9;exact ZT ⟨rfl,fin Z9 hG w9⟩
   |true =>
    have hel:=he' _ s9 _ H9 _ Z9 q9;rw[y1,y2,y5,kP]at hel;refine ZU (ZU (thn hel λev i4 hP=>?_));obtain⟨yv,H10,Z10,r10,hz,o6,m',hG,w10⟩:=hP;have o1:=N5 (X:=Y) _ i4 _ H10 (.ref s2.heap.objs.size) [yv] (.ref s2.heap.objs.size) [ev] (λ_ Hf=>Hf=upd H10 s2.heap.objs.size (.lst (ys++[yv]))) Z10 rfl (.cons r10 .nil) ⟨_,ys,yv,rfl,rfl,o6,hz,rfl⟩;rw[y1,y2,y5,kP]at o1;refine ZU (thn o1 λav s11 hP=>?_);obtain⟨_,H11,Z11,_,e11⟩:=hP;subst e11;exact ZT (ZT ⟨rfl,fin Z11 hG w10⟩)
 have ow:Y.env=compEnvC scope (ext s3.heap.objs.size++uz X.env.cells scope.names []) s3.heap.objs.size X.env:=by subst hX;rfl
 rw[ow]at io;exact codeAny_compStart_list (io _ rfl) (T.self _ 0 _ _ _ (T.keep _ _ _ iX λb _ o e=>kg b o e) (io _ rfl))
def Um{xs N':Θ}(E:TQ X scope xs ext fn)(hc:X.calm=true)(g6:Nv xs X.N=N')(ck:scope.kind=.function)(c5:∀y∈scope.names,y.2=.local->scope.names.lookup y.1=some .local)
 (cb:∀y∈scope.names,y.2=.free->X.env.kindOf y.1=some .cell\/X.env.kindOf y.1=some .free)(fq:∀y∈X.N,y∉xs->(relabel scope X.env).names.lookup y≠some .local)(hq:∀y∈X.N,y∈xs->(relabel scope X.env).names.lookup (hid y)=none)(hi:PI X tg iter wi)
 (hg:∀C s₀ H₀ ex pn,PG (X.compE ext fn N' scope xs C s₀ H₀ ex pn) tg gt)(ht:∀C s₀ H₀ ex pn,PTs (X.compE ext fn N' scope xs C s₀ H₀ ex pn) az tc)(he:∀C s₀ H₀ ex pn,PE (X.compE ext fn N' scope xs C s₀ H₀ ex pn) a8 te)(hs:qV X iter) :
  PE X (.ListComp a8 [⟨tg,iter,az,0⟩] scope pos) (sS wi xs.length gt tc te):=by
 intro aa s σ H Q I h;rw[eval_ListComp];exact Oa E hc g6 ck c5 cb fq hq hi hg ht he hs I h λC D Hc s6 m fl hn I6 fC q=>⟨m,hn,λh' ng=>⟨.ref D,Hc,I6.turned (it:=C) (h':=h') (t':=s6.toks) (λb o hb e=>(ng.2 b hb).trans e) fC.1 fC.2.1 fC.2.2.2.1 fC.2.2.2.2.1 fC.2.2.2.2.2,rfl,q⟩⟩
variable{σ:St}{us:Δ}{o:xL}{u r:Value}{y:V}{kvs:xF}{h':Heap}{ar i:Expr}
section
variable{X:Cx}{k:Nat}{f C:Addr}{fd:FuncData}{ps:Θ}{sp:Sp}{cf:Ε}{ds:Δ}{x m:Str}{p pos ag:Pos}{e o:Expr}{es:ze}{ta:TE}{t:TA}{Ex:Value->Ω->L2.St->Hp->Prop}
def afS{Q:VK}{vs:Ε}(F:d9 X.prog X.w X.K X.mg X.base (CXO X.prog X.w) k f fd ps sp)(hr:dH k X.A)(hb:Binds X.K fd ps ds)(hd:z5 cf ds)(hx:aay X Ex)
 (I:Inv X aa σ H s)(r:z5 vs us)(h:sp (vs++cf) H Q λC d H'=>Ex C d σ H'):wpAny (model X.prog X.w) X.A (call (.ref f) us) (EP X aa σ Q) X.xe s:=by
 have r2:z5 (vs++cf) (us++ds):=r.append hd;have hl:(us++ds).length=ps.length:=by rw[<- r2.length];exact F.len _ _ _ _ h
 refine wpAny_call (codeAny_mono (F.run X.A X.stack s H ⟨us,[]⟩ (us++ds) (vs++cf) Q _ hr I.env0 (hb s us I.kIn hl) r2 h) λr s' hq=>?_);cases r with
 |error e =>
  obtain⟨a,C,d,H',B,rfl,Fl,q'⟩:=hq;exact hx aa σ H s a C H' s' B d I Fl q'
 |ok fl =>
  cases fl with
  |ret u=>exact I.after hq
  |next=>exact False.elim hq
  |brk=>exact False.elim hq
  |cont=>exact False.elim hq
end
section
variable{κ:Type}[DecidableEq κ]
def JR(kvs:List (κ×V))(k:κ):xL:=(kvs.find? λkv=>decide (kv.1=k)).map (·.2)
def putK(kvs:List (κ×V))(k:κ)(v:V):List (κ×V) :=
 if(kvs.any λkv=>decide (kv.1=k))=true then kvs.map (λkv=>if kv.1=k then(kv.1,v)else kv)else kvs++[(k,v)]
def Tj{p:κ×V}{r:List (κ×V)}{k:κ}(e:p.1=k):JR (p::r) k=some p.2:=by simp[JR,List.find?_cons,e]
def Ik{p:κ×V}{r:List (κ×V)}{k:κ}(e:¬p.1=k):JR (p::r) k=JR r k:=by simp[JR,List.find?_cons,e]
def U9(kvs:List (κ×V))(k:κ)(v:V):(putK kvs k v).length<=kvs.length+1:=by
 unfold putK;split
 .rw[ak];exact Xs _
 .rw[aA,List.length_cons,List.length_nil];exact aG _
def yt.isSome_eq{u:Ψ}(r:yt o u):o.isSome=u.isSome:=by
 cases o with
 |none=>cases u with
  |none=>rfl
  |some _=>exact(show False from r).elim
 |some _=>cases u with
  |none=>exact(show False from r).elim
  |some _=>rfl
def yt.getD{o:xL}{u:Ψ}{d:V}{d':Value}(r:yt o u)(rd:z4 d d'):z4 (o.getD d) (u.getD d'):=by
 cases o with
 |none=>cases u with
  |none=>exact rd
  |some _=>exact(show False from r).elim
 |some _=>cases u with
  |none=>exact(show False from r).elim
  |some _=>exact r
def KV.val{kvs:List (κ×V)}{vs:List (κ×Value)}(r:KV kvs vs)(k:κ):yt (JR kvs k) (valueAt vs k):=by
 unfold KV at r
 induction r with
 |nil=>exact True.intro
 |@cons p q ps qs h t ih =>
  obtain⟨h1,h2⟩:=h;by_cases e:p.1=k
  .have e':q.1=k:=h1.symm.trans e;have b:valueAt (q::qs) k=some q.2:=by simp[valueAt,List.find?_cons,e']
   rwa[Tj e,b]
  .have e':¬q.1=k:=λz=>e (h1.trans z);have b:valueAt (q::qs) k=valueAt qs k:=by simp[valueAt,List.find?_cons,e']
   rwa[Ik e,b]
def KV.any{kvs:List (κ×V)}{vs:List (κ×Value)}(r:KV kvs vs)(k:κ):(kvs.any λkv=>decide (kv.1=k))=vs.any λkv=>decide (kv.1=k):=by
 unfold KV at r
 induction r with
 |nil=>rfl
 |cons h t ih=>rw[List.any_cons,List.any_cons,ih,h.1]
def KV.repl{kvs:List (κ×V)}{vs:List (κ×Value)}(r:KV kvs vs)(k:κ)(ry:z4 y u) :
  KV (kvs.map λkv=>if kv.1=k then(kv.1,y)else kv) (vs.map λkv=>if kv.1=k then(kv.1,u)else kv):=by
 unfold KV at r ⊢
 induction r with
 |nil=>exact .nil
 |@cons p q ps qs h t ih =>
  rw[List.map_cons,List.map_cons];refine .cons ?_ ih;obtain⟨h1,h2⟩:=h;by_cases e:p.1=k
  .rw[ZY e,ZY (h1.symm.trans e)];exact⟨h1,ry⟩
  .rw[ZZ e,ZZ (λz=>e (h1.trans z))];exact⟨h1,h2⟩
def KV.put{kvs:List (κ×V)}{vs:List (κ×Value)}(r:KV kvs vs)(k:κ)(ry:z4 y u):KV (putK kvs k y) (stored vs k u):=by
 unfold putK stored;rw[r.any k];by_cases e:(vs.any λkv=>decide (kv.1=k))=true
 .rw[ZY e,ZY e];exact r.repl k ry
 .rw[ZZ e,ZZ e];exact Paired.snoc r ⟨rfl,ry⟩
def KV.length{kvs:List (κ×V)}{vs:List (κ×Value)}(r:KV kvs vs):kvs.length=vs.length:=Paired.length r
end
def T3{k:Key}(r:z4 (kV k) u):(gG P w).is k u=true:=by
 cases k with
 |inl i=>obtain⟨t,e⟩:=(show ∃t,u=Value.int i t from r);subst e;exact U4 P w i t
 |inr x=>obtain⟨t,e⟩:=(show ∃t,u=Value.str x t from r);subst e;exact UL P w x t
def anR{u:HO}(ok:HOk P w H h)(e:Rd H a u):eZ P w H h a u:=e.ok ok
def Kd(ok:HOk P w H h)(e:Rd H a (.dK kvs)):kvs.length<=sizeLine/\(a==sysModules)=false/\∃vs,KV kvs vs/\h.DictOf (gG P w) a vs :=
 show eZ P w H h a (.dK kvs)from anR ok e
def ajZ(ok:HOk P w H h)(e:H a=some (.dK kvs)):kvs.length<=sizeLine/\(a==sysModules)=false/\∃vs,KV kvs vs/\h.DictOf (gG P w) a vs:=Kd ok (.inl e)
def Fp(H:Hp)(a:Addr)(y:V)(r:xL):Prop :=
 (∃kvs k,Rd H a (.dK kvs)/\y=kV k/\r=JR kvs k)\/False
def al0(H:Hp)(a:Addr)(y v:V)(H':Hp):Prop :=
 (∃kvs k,H a=some (.dK kvs)/\y=kV k/\kvs.length<sizeLine/\H'=upd H a (.dK (putK kvs k v)))\/False
def Fp.k{H:Hp}{a:Addr}{kvs:xF}{k:Key}(e:H a=some (.dK kvs)):Fp H a (kV k) (JR kvs k):=.inl ⟨kvs,k,.inl e,rfl,rfl⟩
def Inv.big(I:Inv X aa σ H s):sysModules<s.heap.objs.size:=by
 have h:mainGlobals<s.heap.objs.size:=(I.mod.glob.keeps I.bk).lt;exact Th wp h
def aak{Q:Β}(hu:A.units+1<cLine)(I:Inv X aa σ H s)(g:Fp H a y (some v))(ry:z4 y u)(h:∀w' s',Inv X aa σ H s'->z4 v w'->Q w' s') :
  wpAny (model X.prog X.w) A (getItem (.ref a) u) Q E s:=by
 rcases g with⟨kvs,k,e,ey,l⟩|hF
 .subst ey;obtain⟨z,hd,vs,rel,dd⟩:=Kd I.hok e;obtain⟨w',hw,fe⟩:=yt.some_of (v:=v) (o:=valueAt vs k) (by rw[l];exact rel.val k);exact wpAny_getItem_of (T3 ry) dd.mapOf hw (h w' _ (I.tok _) fe)
 .exact hF.elim
def aoH{Q:Β}(hu:A.units+1<cLine)(I:Inv X aa σ H s)(g:Fp H a y o)(ry:z4 y u)(h:∀s',Inv X aa σ H s'->Q (.bool o.isSome) s') :
  wpAny (model X.prog X.w) A (compareOp .In u (.ref a)) Q E s:=by
 rcases g with⟨kvs,k,e,ey,l⟩|hF
 .subst ey;obtain⟨z,hd,vs,rel,dd⟩:=Kd I.hok e;refine wpAny_in_of (T3 ry) hd dd.mapOf ?_;rw[<- (rel.val k).isSome_eq,<- l];exact h _ (I.tok _)
 .exact hF.elim
def afQ{Q:Β}(hu:A.units+1<cLine)(I:Inv X aa σ H s)(g:Fp H a y o)(ry:z4 y u)(h:∀s',Inv X aa σ H s'->Q (.bool (!o.isSome)) s') :
  wpAny (model X.prog X.w) A (compareOp .NotIn u (.ref a)) Q E s:=by
 rcases g with⟨kvs,k,e,ey,l⟩|hF
 .subst ey;obtain⟨z,hd,vs,rel,dd⟩:=Kd I.hok e;refine wpAny_notIn_of (T3 ry) hd dd.mapOf ?_;rw[<- (rel.val k).isSome_eq,<- l];exact h _ (I.tok _)
 .exact hF.elim
def aeI{t':Nat}{ob:HO}(I:Inv X aa σ H s)(mu:Mut (H a))(hs:Heap.SameBut a s.heap h')(he:∃q,h'.get? a=some q)(new:eZ X.prog X.w (upd H a ob) h' a ob) :
  Inv X aa σ (upd H a ob) { s with heap:=h',toks:=t' } :=
 I.write (x:=a) (e:=a) mu (.inl rfl) (λb q hb z=>(hs.2 b hb).trans z) he new
def ahp{vs:List (Key×Value)}(z:kvs.length<=sizeLine)(hd:(a==sysModules)=false)(rel:KV kvs vs)(dd:h'.DictOf (gG P w) a vs) :
  eZ P w H' h' a (.dK kvs):=⟨z,hd,vs,rel,dd⟩
def Zr(hu:A.units+1<cLine)(I:Inv X aa σ H s)(g:al0 H a y v H')(ry:z4 y u)(rv:z4 v r)(h:∀s',Inv X aa σ H' s'->Q () s') :
  wpAny (model X.prog X.w) A (setItem (.ref a) u r) Q E s:=by
 rcases g with⟨kvs,k,e,ey,l,eH⟩|hF
 .subst ey eH;obtain⟨z,hd,vs,rel,dd⟩:=ajZ I.hok e;have hz:vs.length<=sizeLine:=by rw[<- rel.length];exact z
  have hl:(putK kvs k v).length<=sizeLine:=by have:=U9 kvs k v;lia
  refine wpAny_setItem_pairs (hsz:=hz) (T3 ry) dd λh' p5 hs=>h _ ?_;have he:∃q,h'.get? a=some q:=by obtain⟨q,_,_,hq,_⟩:=p5;exact⟨q,hq⟩
  exact aeI I (by rw[e];exact True.intro) hs he (ahp hl hd (rel.put k rv) p5)
 .exact hF.elim
def agL(i:Expr):Prop:=∀ov iv,subscripted i false ov iv=operate [ov,iv] (getItem ov iv)
def afr{env:Env}{br:Expr}{T id:String}{Q:Β}
 (hl:typeLookup (.type T) "__getitem__"=pure (some (.builtin id)))(hs:agL br)
 (h:wpAny (model prog w) A (eval ar env) (λo s₁=>wpAny (model prog w) A (eval br env) (λi s₂=>s₂.TypeIs o T/\wpAny (model prog w) A (getItem o i) Q E s₂) E s₁) E s) :
  wpAny (model prog w) A (eval (.Subscript ar br pos) env) Q E s:=by
 refine Subscript_ (wpAny_mono h (λo s₁ h₁=>wpAny_mono h₁ (λi s₂ h₂=>?_) λ_ _ x=>x) λ_ _ x=>x);obtain⟨hT,h₂⟩:=h₂;unfold subscriptTail;refine ZU ?_;rw[getitemInPython_of_ne hT.not_modules];refine ZU (wpAny_specialOf hT hl ?_);have fin:wpAny (model prog w) A (subscripted br false o i) (λr s₃=>wpAny (model prog w) A (letTemporaryGo ar o r >>= λ_=>pure r) Q E s₃) E s₂:=by
  rw[hs o i];exact wpAny_operating (wpAny_mono h₂ (λr s₃ h₃=>ZU (wpAny_letTemporaryGo (ZT h₃))) λ_ _ x=>x)
 first
  |exact ZT (ZU fin)
  |exact ZU (ZT (ZU fin))
  |exact ZU fin
def Ud{X:Cx}(I:Inv X aa σ H s)(g:Fp H a y o):s.TypeIs (.ref a) "dict":=by
 rcases g with⟨kvs,k,e,_,_⟩|hF
 .obtain⟨_,_,vs,_,dd⟩:=Kd I.hok e;exact dd.typeIs
 .exact hF.elim
def anB(td ty:TE):TE:=λσ H Q=>td σ H λx H1=>ty σ H1 λy H2=>∃a v,x=.ref a/\Fp H2 a y (some v)/\Q v H2
def aod(ty td:TE):TE:=λσ H Q=>ty σ H λy H1=>td σ H1 λx H2=>∃a o,x=.ref a/\Fp H2 a y o/\Q (.bl o.isSome) H2
def ae4(ty td:TE):TE:=λσ H Q=>ty σ H λy H1=>td σ H1 λx H2=>∃a o,x=.ref a/\Fp H2 a y o/\Q (.bl (!o.isSome)) H2
def akg(td ty tv:TE):TS:=λD σ H=>tv σ H λv H1=>td σ H1 λx H2=>ty σ H2 λy H3=>∃a H4,x=.ref a/\al0 H3 a y v H4/\D.nx σ H4
variable{o:Expr}{td ty tv:TE}{ay:Pos}{d:V}
def aex(hu:X.A.units+1<cLine)(ho:PE X o td)(hi:PE X i ty)(hs:agL i):PE X (.Subscript o i pos) (anB td ty):=by
 intro aa s σ H Q I h;refine afr PySem.F.slot_dict_getitem.lookup hs (thn (ho aa s σ H _ I h) λu s1 ⟨x,H1,I1,rx,q1⟩=>thn (hi aa s1 σ H1 _ I1 q1) λiv s2 hP=>?_);obtain⟨y,H2,I2,ry,a,v,ex,g,q2⟩:=hP;subst ex;obtain rfl:u=Value.ref a:=rx;exact⟨Ud I2 g,aak hu I2 g ry λw' s3 I3 fe=>⟨v,H2,I3,fe,q2⟩⟩
def ajf(hu:X.A.units+1<cLine)(hi:PE X i ty)(ho:PE X o td):PC X .In i o (aod ty td):=by
 intro aa s σ H Q I h;refine thn (hi aa s σ H _ I h) λiv s1 ⟨y,H1,I1,ry,q1⟩=>thn (ho aa s1 σ H1 _ I1 q1) λu s2 hP=>?_;obtain⟨x,H2,I2,rx,a,ov,ex,g,q2⟩:=hP;subst ex;obtain rfl:u=Value.ref a:=rx;exact aoH hu I2 g ry λs3 I3=>⟨.bl ov.isSome,H2,I3,rfl,q2⟩
def aaj(hu:X.A.units+1<cLine)(hi:PE X i ty)(ho:PE X o td):PC X .NotIn i o (ae4 ty td):=by
 intro aa s σ H Q I h;refine thn (hi aa s σ H _ I h) λiv s1 ⟨y,H1,I1,ry,q1⟩=>thn (ho aa s1 σ H1 _ I1 q1) λu s2 hP=>?_;obtain⟨x,H2,I2,rx,a,ov,ex,g,q2⟩:=hP;subst ex;obtain rfl:u=Value.ref a:=rx;exact afQ hu I2 g ry λs3 I3=>⟨.bl (!ov.isSome),H2,I3,rfl,q2⟩
def adY(hu:X.A.units+1<cLine)(ho:PE X o td)(hi:PE X i ty)(hv:PE X ar tv)(hs:swapsWith ar (some (.Subscript o i ay)) pos.line X.env=pure false) :
  PS X (.Assign [.Subscript o i ay] ar pos) (akg td ty tv):=by
 intro aa s σ H D I h;refine wpAny_Assign_Subscript (thn (hv aa s σ H _ I h) λr s1 ⟨v,H1,I1,rv,q1⟩=>thn (ho aa s1 σ H1 _ I1 q1) λu s2 ⟨x,H2,I2,rx,q2⟩=>thn (hi aa s2 σ H2 _ I2 q2) λiv s3 hP=>?_) hs;obtain⟨y,H3,I3,ry,a,H4,ex,g,q3⟩:=hP;subst ex;obtain rfl:u=Value.ref a:=rx;exact Zr hu I3 g ry rv λs4 I4=>⟨σ,H4,I4,q3⟩
def adD(h:Heap)(hb:sysModules<h.objs.size):eZ P w H (h.push { cls:=.type "dict",data:=.dict #[] }) h.objs.size (.dK []) :=
 ⟨aZ _,beq_eq_false_iff_ne.mpr (Ne.symm (aQ hb)),[],.nil,Heap.DictOf.new h⟩
def aiR:TE:=λ_ H Q=>∀p,H p=none->Q (.ref p) (upd H p (.dK []))
def abA:PE X (.Dict [] [] pos) aiR:=λaa s σ H Q I h =>
 wpAny_Dict_empty ⟨.ref s.heap.objs.size,_,I.laid (a:=s.heap.objs.size) (o:=.dK []) (t':=s.toks) (λ_ _ q=>aH _ q) (aG _) (adD s.heap I.big),rfl,h _ (I.hok.fresh (aG _))⟩
structure M2(X:Cx)(o:Expr)(m:Str)(ag:Pos)(e f:Expr)(af:Pos):Prop where
 base:qB X o m
 few:((backTo af (starEach [e,f] X.env)).all (λx=>!x.1)&&(backToKw af (keywordEach [] X.env)).all (λx=>x.1.isSome)
  && decide (([e,f] : ze).length+([] : xA).length+(if([] : xA).isEmpty then 0 else 1)<30))=true
 line:zw ag af
 trees:backTo af (starEach [e,f] X.env)=[(false,eval e X.env),(false,eval f X.env)]
def IsD(H:Hp)(a:Addr):Prop:=(∃kvs,Rd H a (.dK kvs))\/False
def ah7{X:Cx}(I:Inv X aa σ H s)(d:IsD H a) :
  s.TypeIs (.ref a) "dict"/\(∀b,Value.ref a=.ref b->∃ob,s.heap.get? b=some ob/\ob.dict=none)/\(a==sysModules)=false:=by
 rcases d with⟨kvs,e⟩|hF
 .obtain⟨_,hd,vs,_,dd⟩:=Kd I.hok e;refine⟨dd.typeIs,λb q=>?_,hd⟩;cases q;obtain⟨ob,_,_,h1,h2,_⟩:=dd;exact⟨ob,h1,h2.2.1⟩
 .exact hF.elim
variable{o:xL}{f:Expr}
def aiK{Q:Β}(hu:A.units+1<cLine)(I:Inv X aa σ H s)(g:Fp H a y o)(ry:z4 y u)(rd:z4 d r)(h:∀w' s',Inv X aa σ H s'->z4 (o.getD d) w'->Q w' s') :
  wpAny (model X.prog X.w) A (call (.builtin "dict.get") [.ref a,u,r]) Q E s:=by
 rcases g with⟨kvs,k,e,ey,l⟩|hF
 .subst ey;obtain⟨z,hd,vs,rel,dd⟩:=Kd I.hok e;refine call_meetsIn PySem.F.slot_dict_get dd.typeIs PySem.F.entry_dict_get (PySem.F.args_dict_get_3 _ _ _) (meets_dict_get_default (gG X.prog X.w) a (T3 ry) hd r) ⟨_,dd.mapOf,h _ _ (I.tok _) ?_⟩;rw[l];exact(rel.val k).getD rd
 .exact hF.elim
def ai8(td ty tx:TE):TE:=λσ H Q=>td σ H λx H1=>∃a,x=.ref a/\IsD H1 a/\ty σ H1 λy H2=>tx σ H2 λz H3=>∃o,Fp H3 a y o/\Q (o.getD z) H3
variable{o:Expr}{tx:TE}{pl:Sem Bool}{σ:L2.St}
def adf(hu:X.A.units+1<cLine)(ho:PE X o td)(he:PE X e ty)(hf:PE X f tx)(m:M2 X o "get" ag e f af):PE X (.Call (.Attribute o "get" ag) [e,f] [] af) (ai8 td ty tx):=by
 intro aa s σ H Q I h;refine wpAny_Call_method m.base m.few m.line PySem.F.plainAttrs_dict PySem.F.slot_dict_get PySem.F.type_dict_get (thn (ho aa s σ H _ I h) λu s1 hP=>?_);obtain⟨x,H1,I1,rx,a,ex,d,q1⟩:=hP;subst ex;obtain rfl:u=Value.ref a:=rx;obtain⟨t1,t2,_⟩:=ah7 I1 d;refine⟨t1,t2,?_⟩;rw[m.trees];refine Calls.callWith_builtin rfl (Calls.evalArgs_plain (Calls.spliced_cons (thn (he aa s1 σ H1 _ I1 q1) λiv s2 ⟨y,H2,I2,ry,q2⟩ =>
  Calls.spliced_cons (thn (hf aa s2 σ H2 _ I2 q2) λfv s3 ⟨z,H3,I3,rz,ov,g,q3⟩=>Calls.spliced_nil ?_))))
 exact aiK hu I3 g ry rz λw' s4 I4 fe=>⟨_,H3,I4,fe,q3⟩
def Itk(a:Addr)(o:Obj)(kvs:xF):It:=⟨λi H=>H a=some (.frz o (.dK kvs))/\i<kvs.length,λi H v H'=>H'=H/\∃k y,kvs[i]?=some (k,y)/\v=kV k,λi H=>H a=some (.frz o (.dK kvs))/\i=kvs.length⟩
def agh{k:Key}(h:(gG P w).is k u=true):z4 (kV k) u:=by
 have h:Ds k u=true:=h;cases k with
 |inl i =>
  cases u<;>simp[Ds,Value.isInt]at h
  .subst h;exact⟨_,rfl⟩
 |inr x =>
  cases u<;>simp[Ds,Value.isStrOf]at h
  .subst h;exact⟨_,rfl⟩
def KV.at{κ:Type}{kvs:List (κ×V)}{vs:List (κ×Value)}(r:KV kvs vs):∀{i:Nat}{k:κ}{y:V},kvs[i]?=some (k,y)->∃u,vs[i]?=some (k,u)/\z4 y u:=by
 unfold KV at r
 induction r with
 |nil=>intro i k y h;cases h
 |@cons p q ps qs h t ih =>
  intro i k y e;cases i with
  |zero =>
   rw[List.getElem?_cons_zero]at e;cases e;obtain⟨q1,q2⟩:=q;obtain⟨h1,h2⟩:=h;cases h1;exact⟨q2,rfl,h2⟩
  |succ i =>
   rw[List.getElem?_cons_succ]at e ⊢;exact ih e
def Zw(it a:Addr)(o:Obj)(kvs:xF)(vs:List (Key×Value))(ep:Nat)(rel:KV kvs vs)(hD:∀h:Heap,h.get? a=some o->h.DictAt (gG P w) a vs ep) :
  Turn P w K tg (Itk a o kvs) [it] it (λi h=>h.IsKeyIter it a i vs.length ep) where
 mem:=by simp
 obj:=λi h st b hb=>by
  have e:b=it:=by simpa using hb
  subst e;obtain⟨o,ho,_,hd⟩:=st;exact⟨o,ho,λv z=>by rw[hd]at z;cases z⟩
 keep:=λi h h' st k=>let⟨o,ho,r⟩:=st;⟨o,k it wr o ho,r⟩
 item:=by
  intro X hP hw hK hc i aa s σ H E I hf st hg;subst hP hw hK;obtain⟨hg,eT⟩:=hg;obtain⟨ho,_⟩:=(show eZ X.prog X.w H s.heap a (.frz o (.dK kvs))from I.hok a _ hg);obtain⟨f0,f1,f2,f3,f4,f5⟩:=hf it wr;obtain⟨⟨k,y⟩,hx⟩ : ∃p,kvs[i]?=some p:=⟨kvs[i],by simp[eT]⟩;obtain⟨u,hu,ru⟩:=rel.at hx;refine wpAny_pyNext_dict_item st (hD _ ho) hu λci h' fx dP sb=>?_;have I1:Inv X aa σ H { s with heap:=h' }:=I.turned (t':=s.toks) (λb ob hb e=>(sb.2 b hb).trans e) f0 f1 f3 f4 f5;obtain⟨oi,e,c,d⟩:=id dP;exact⟨ci,rfl,YJ (s:={ s with heap:=h' }) e c d wp ⟨kV k,H,I1,agh fx,⟨rfl,k,y,hx,rfl⟩,dP,λb hb=>(hf b hb).1⟩⟩
 done:=by
  intro X hP hw hK hc i aa s σ H E I hf st hg;subst hP hw hK;obtain⟨hg,rfl⟩:=hg;obtain⟨ho,_⟩:=(show eZ X.prog X.w H s.heap a (.frz o (.dK kvs))from I.hok a _ hg);obtain⟨f0,f1,f2,f3,f4,f5⟩:=hf it wr;have hl:=rel.length;exact wpAny_pyNext_dict_end (I.ok.hd hc) st (hD _ ho) (by simp;exact WG (Eq.symm hl)) λh' eb=>⟨rfl,I.turned (t':=s.toks) (λb ob hb e=>eb b ob hb e) f0 f1 f3 f4 f5⟩
 self:=λ_ _ _ _ _ st h=>wpAny_pyIter_keyiter st h
def amZ(te:TE):TI:=λσ H R=>te σ H λx H1=>∃a kvs,x=.ref a/\H1 a=some (.dK kvs)/\∀o,R (Itk a o kvs) (upd H1 a (.frz o (.dK kvs)))
def afz(hl:PE X l tl):PI X tg l (amZ tl):=by
 intro aa s σ H R I h;refine thn (hl aa s σ H _ I h) λv s1 hP=>?_;obtain⟨x,H1,I1,r1,a,kvs,ex,ha,q⟩:=hP;subst ex;cases r1;have ok:=(show eZ X.prog X.w H1 s1.heap a (.dK kvs)from I1.hok a _ ha);obtain⟨z,hd,vs,rel,o,es,ep,e,ex,ed,ek,i',en⟩:=ok;have hD:∀h:Heap,h.get? a=some o->h.DictAt (gG X.prog X.w) a vs ep:=λh e=>⟨o,es,e,ex,ed,ek,i',en⟩;have I2:Inv X aa σ (upd H1 a (.frz o (.dK kvs))) s1:=by
  have:=I1.write (x:=a) (e:=a) (o:=.frz o (.dK kvs)) (h':=s1.heap) (t':=s1.toks) (by rw[ha];exact True.intro) (.inl rfl) (λb u hb z=>z) ⟨o,e⟩ ⟨e,z,hd,vs,rel,o,es,ep,e,ex,ed,ek,i',en⟩;exact this
 refine wpAny_pyIter_dict hd (hD _ e) ?_;refine⟨s1.heap.objs.size,[s1.heap.objs.size],_,Itk a o kvs,_,rfl,I2.kept (t':=s1.toks) λb ob z=>aH _ z,Zw _ a o kvs vs ep rel hD,⟨_,aW _ rfl,rfl,rfl⟩,λb hb=>?_,q o⟩;have e:b=s1.heap.objs.size:=by simpa using hb
 subst e;exact I2.fpOk (aG _) (I2.hok.fresh (aG _))
def tMG(g:TG):TG:=λv σ H Q=>∃R:L2.St->Hp->Prop,g v σ H R/\∀σ' H',R σ' H'->Q σ' H'
def tMT(t:TT):TT:=λσ H Q=>∃R:Bool->Hp->Prop,t σ H R/\∀b H',R b H'->Q b H'
def PG.mono{g:TG}(h:PG X e g):PG X e (tMG g):=λaa s σ H v u Q I r hP=>by obtain⟨R,h1,h2⟩:=hP;exact thn (h aa s σ H v u R I r h1) λ_ s' hP=>by obtain⟨σ',H',I',q⟩:=hP;exact⟨σ',H',I',h2 σ' H' q⟩
def PTs.mono{t:TT}(h:PTs X az t):PTs X az (tMT t):=λaa s σ H Q I hP=>by obtain⟨R,h1,h2⟩:=hP;exact thn (h aa s σ H R I h1) λb s' hP=>by obtain⟨H',I',q⟩:=hP;exact⟨H',I',h2 b H' q⟩
structure Gj(K:Frag)(B:Addr)(m:Str)(f:Addr):Prop where
 ga:specialIn K (.ref B) "__getattribute__"=some (some (.builtin "type.__getattribute__"))
 rd:readsIn K B (.type "type")=true
 at_:findCls K (.ref B) (.type "type") m=some (.val (.ref f))
 hd:handedIn (.ref f)=true
 kp:keepIn K (.ref f)=true
section
variable{X:Cx}{k:Nat}{f B:Addr}{fd:FuncData}{ps:Θ}{sp:Sp}{cf:Ε}{ds:Δ}{x m:Str}{p pos ag:Pos}{e:Expr}{es:ze}{t:TA}{Ex:Value->Ω->L2.St->Hp->Prop}
def Gj.get{aa:Γ}{σ:L2.St}{H:Hp}{s:Shared}{pl:Sem Bool}{A:Around}{E:Β}{Q:Value×Δ->Shared->Prop}(c:Gj X.K B m f)(I:Inv X aa σ H s)(h:∀t,Q (.ref f,[]) { s with toks:=t }) :
  wpAny (model X.prog X.w) A (getMethod (.ref B) m pl) Q E s :=
 method_cls I.kIn c.ga (cls_value I.kIn c.rd c.at_ c.hd (h _))
def aeF(c:Gj X.K B m f)(F:d9 X.prog X.w X.K X.mg X.base CX0 k f fd ps sp)(hr:dH k X.A)(hg:Gl X x)(hm:X.mg x=some (.ref B))(hb:Binds X.K fd ps [])(ha:PA X (e::es) t)(bo:qk x:=by decide)
 (bu:qo X e es:=by rfl)(aE:qh X pos es:=by rfl)
 (ht:eval (.Call (.Attribute (.Name x p) m ag) (e::es) [] pos) X.env=(do
   let ov <- eval (.Name x p) X.env
   standAt ag.atName
   let(f,first) <- holding [ov] (getMethod ov m pl)
   callWith pos f first (backTo pos (starEach (e::es) X.env)) (backToKw pos (keywordEach [] X.env))):=by rfl) :
  PE X (.Call (.Attribute (.Name x p) m ag) (e::es) [] pos) (Wk sp t):=by
 intro aa s σ H Q I h;refine methodCall_KW (pl:=pl) (rH I hg hm (c.get I λtk=>?_) bo) ht;refine callWith_K (first:=[]) (h₀:=X.base) I.ok.mod.kin c.kp (thn (ha pos aa _ σ H _ (I.tok tk) h) λus s2 ⟨vs,H2,I2,r,q2⟩=>⟨I2.kIn,?_⟩) bu aE;exact Jd (us:=us) (vs:=vs) F hr hb .nil Jg I2 r (by rw[List.append_nil];exact q2)
end
def z0.tup{K:Frag}{H H':Hp}{a:Addr}{xs:Ε}(e:z0 H H')(h:SqT K H a xs):SqT K H' a xs:=by
 rcases h with(h|⟨o,h⟩)|h
 .exact .inl (.inl (e _ _ h))
 .exact .inl (.inr ⟨o,e _ _ h⟩)
 .exact .inr h
mutual
inductive jF(K:Frag)(H:Hp):V->PyData->Prop
 |non:jF K H .non .none
 |bl (b:Bool):jF K H (.bl b) (.bool b)
 |int (i:Int):jF K H (.int i) (.int i)
 |str (x:Str):jF K H (.str x) (.str x)
 |lst {a:Addr}{xs:Ε}{ds:xa} : H a=some (.lst xs)->gq K H xs ds->jF K H (.ref a) (.list ds)
 |tup {a:Addr}{xs:Ε}{ds:xa} : SqT K H a xs->gq K H xs ds->jF K H (.ref a) (.tuple ds)
inductive gq(K:Frag)(H:Hp):Ε->xa->Prop
 |nil:gq K H [] []
 |cons {x:V}{xs:Ε}{d:PyData}{ds:xa} : jF K H x d->gq K H xs ds->gq K H (x::xs) (d::ds)
end
mutual
theorem jF.same{K:Frag}{H H':Hp}(S:z0 H H'):∀{x:V}{d:PyData},jF K H x d->jF K H' x d
 |_,_,.non=>.non
 |_,_,.bl b=>.bl b
 |_,_,.int i=>.int i
 |_,_,.str x=>.str x
 |_,_,.lst e h=>.lst (S _ _ e) (gq.same S h)
 |_,_,.tup e h=>.tup (S.tup e) (gq.same S h)
theorem gq.same{K:Frag}{H H':Hp}(S:z0 H H'):∀{xs:Ε}{ds:xa},gq K H xs ds->gq K H' xs ds
 |_,_,.nil=>.nil
 |_,_,.cons h t=>.cons (jF.same S h) (gq.same S t)
end
mutual
theorem Inv.readsK(I:Inv X aa σ H s):∀{x:V}{d:PyData}{v:Value},jF X.K H x d->z4 x v->∃as,Reads s.heap v d as
 |_,_,_,.non,r=>by cases r;exact⟨_,.none⟩
 |_,_,_,.bl b,r=>by cases r;exact⟨_,.bool b⟩
 |_,_,_,.int i,r=>by obtain⟨t,rfl⟩:=r;exact⟨_,.int i t⟩
 |_,_,_,.str x,r=>by obtain⟨t,rfl⟩:=r;exact⟨_,.str x t⟩
 |_,_,_,.lst e h,r=>by
  cases r;obtain⟨its,rv,⟨o,ho,hc,n,hd⟩⟩:=I.lstIs e;obtain⟨as,q⟩:=Inv.readsAllK I h rv;exact⟨_,.list ho hc hd q⟩
 |_,_,_,.tup e h,r=>by
  cases r;obtain⟨its,rv,⟨o,ho,hc,n,hd⟩,_⟩:=I.tuple e;obtain⟨as,q⟩:=Inv.readsAllK I h rv;exact⟨_,.tuple ho hc hd q⟩
theorem Inv.readsAllK(I:Inv X aa σ H s):∀{xs:Ε}{ds:xa}{vs:Δ},gq X.K H xs ds->z5 xs vs->∃as,ReadsAll s.heap vs ds as
 |_,_,_,.nil,r=>by cases r;exact⟨_,.nil⟩
 |_,_,_,.cons h t,r=>by
  cases r with
  |cons r1 r2 =>
   obtain⟨a,q1⟩:=Inv.readsK I h r1;obtain⟨b,q2⟩:=Inv.readsAllK I t r2;exact⟨_,.cons q1 q2⟩
end
def aja(K:Frag)(neg:Bool):R2:=λx y H Q=>∃d e,jF K H x d/\jF K H y e/\SeqAt.shaped d=true/\SeqAt.shaped e=true/\Q (.bl (if neg then !PyData.eqv d e else PyData.eqv d e)) H
def aiG(hu:X.A.units+64<cLine):OpR X (compareOp .Eq) (aja X.K false):=by
 intro aa s σ H x y v u Q I rx ry h;obtain⟨d,e,hd,he,sd,se,q⟩:=h;obtain⟨as,ra⟩:=I.readsK hd rx;obtain⟨bs,rb⟩:=I.readsK he ry;exact SeqAt.compareEq_shaped ra rb sd se hu ⟨.bl _,H,I,rfl,q⟩
def ag6(hu:X.A.units+64<cLine):OpR X (compareOp .NotEq) (aja X.K true):=by
 intro aa s σ H x y v u Q I rx ry h;obtain⟨d,e,hd,he,sd,se,q⟩:=h;obtain⟨as,ra⟩:=I.readsK hd rx;obtain⟨bs,rb⟩:=I.readsK he ry;exact SeqAt.compareNe_shaped ra rb sd se hu ⟨.bl _,H,I,rfl,q⟩
def afj(K:Frag):Ε->Hp->VK->Prop:=λxs H Q=>∃p T ys,xs=[.ref p,.ty T]/\T∈["bool","int","str","list","tuple","dict"]/\SqT K H p ys/\Q (.bl (R_ "tuple" T)) H
def Td:ig X (.builtin "isinstance") (afj X.K):=by
 intro aa s σ H xs us Q I r h;obtain⟨p,T,ys,rfl,hT,hp,q⟩:=h;obtain⟨u,v,rfl,ru,rv⟩:=r.two;cases ru;cases rv;obtain⟨its,rvs,⟨o,ho,hc,n,hd⟩,_⟩:=I.tuple hp;refine kia_one (kitx_tuple (a:=p)) I.kIn ⟨o,ho,hc⟩ (Y9 (K:=X.K) (t:="tuple") wp hT) (λz=>nomatch z) λtk=>⟨.bl _,H,I.tok _,rfl,q⟩
def OkI(P:Program)(w:World)(K:Frag)(mg:Str->Ψ)(base:Heap)(CX:CXT)(k:Nat)(f:Addr)(ps:Θ)(sp:Sp):Prop:=∃fd,d9 P w K mg base CX k f fd ps sp/\Binds K fd ps []
def vP(K:Frag)(x ah:Str)(st:Stmt)(ps:Θ)(f:Addr):Prop:=∃fd,Fun K x ah st f fd/\∀us:Δ,us.length=ps.length->bindArgs fd ⟨us,[]⟩=pure (ps.zip us)
variable{f fI:Addr}{k i:Nat}{o:Obj}{p:Pos}{x0:Str}{mN:Str->Ψ}
def vP.ok{CX:CXT}(h:vP K x ah st ps f)(hf:∀fd,Fun K x ah st f fd->d9 P w K mg base CX k f fd ps sp):OkI P w K mg base CX k f ps sp :=
 by obtain⟨fd,a,b⟩:=h;exact⟨fd,hf fd a,.all b⟩
def ae8{od an:Ω}{kV bz pm ai ct:Value}
 (l:K.lookup f=some ⟨oc,od,.func (PySem.W.fnOf x ah (jN st) (fJ st) (bG st) .none kV bz pm an ai ct),dy⟩)(c:codeIn K ai ah=true)(k:keepIn K (.ref f)=true)
 (hb:∀(kV bz pm:Value)(an:Ω)(ai ct:Value)(us:Δ),us.length=ps.length->bindArgs (PySem.W.fnOf x ah (jN st) (fJ st) (bG st) .none kV bz pm an ai ct) ⟨us,[]⟩=pure (ps.zip us)):vP K x ah st ps f :=
 ⟨_,abB l c k,hb kV bz pm an ai ct⟩
section
variable{X:Cx}{k:Nat}{f C B:Addr}{ps:Θ}{sp:Sp}{x m:Str}{p pos ag:Pos}{e o:Expr}{es:ze}{ta:TE}{t:TA}{Ex:Value->Ω->L2.St->Hp->Prop}
def aa9(C:Addr)(m:Str)(sp:Sp)(ta:TE)(t:TA):TE:=λσ H Q=>ta σ H λx H1=>∃a dx fs,x=.ref a/\H1 a=some (.ins C dx fs)/\fs.lookup m=none/\t σ H1 λvs H2=>sp (x::vs) H2 Q E0
abbrev zd(X:Cx):=OkI X.prog X.w X.K X.mg X.base
def aa5(he:PE X o ta)(c:Cls X.K C)(hm:Meth X.K C m f)(G:zd X CX0 k f ps sp)(hr:dH k X.A)(ha:PA X (e::es) t)
 (bu:qo X e es:=by rfl)(aE:qh X pos es:=by rfl)
 (ht:eval (.Call (.Attribute o m ag) (e::es) [] pos) X.env=(do
   let ov <- eval o X.env
   standAt ag.atName
   let(f,first) <- holding [ov] (getMethod ov m pl)
   callWith pos f first (backTo pos (starEach (e::es) X.env)) (backToKw pos (keywordEach [] X.env))):=by rfl) :
  PE X (.Call (.Attribute o m ag) (e::es) [] pos) (aa9 C m sp ta t):=by
 obtain⟨fd,F,hb⟩:=G;refine(afP (pl:=pl) he.mono c hm F hr hb .nil Jg ha.mono bu aE ht).imp λσ H Q h=>⟨_,h,?_⟩;rintro x H1 ⟨a,dx,fs,h1,h2,h3,h4⟩;refine⟨a,dx,fs,h1,h2,h3,_,h4,λvs H2 q=>?_⟩;show sp (x::(vs++[])) H2 Q E0;rwa[List.append_nil]
def Z2(he:PE X o ta)(c:Cls X.K C)(hm:Meth X.K C m f)(G:zd X CX0 k f ps sp)(hr:dH k X.A)
 (ht:eval (.Call (.Attribute o m ag) [] [] pos) X.env=(do
   let ov <- eval o X.env
   standAt ag.atName
   let(f,first) <- holding [ov] (getMethod ov m pl)
   callWith pos f first (backTo pos (starEach [] X.env)) (backToKw pos (keywordEach [] X.env))):=by rfl) :
  PE X (.Call (.Attribute o m ag) [] [] pos) (aa9 C m sp ta ais):=by
 obtain⟨fd,F,hb⟩:=G;refine(adF (pl:=pl) he.mono c hm F hr hb .nil Jg ht).imp λσ H Q h=>⟨_,h,?_⟩;rintro x H1 ⟨a,dx,fs,h1,h2,h3,h4⟩;exact⟨a,dx,fs,h1,h2,h3,h4⟩
def acV{pos:Pos}(hg:Gl X x)(hm:X.mg x=some (.ref D))(hd:qk x:=by decide):PE X (.Name x pos) (tC (.ref D)):=PN hg hm rfl hd
end
def Itp(a:Addr)(o:Obj)(kvs:xF):It:=⟨λi H=>H a=some (.frz o (.dK kvs))/\i<kvs.length,λi H v H'=>∃k y t,kvs[i]?=some (k,y)/\H t=none/\v=.ref t/\H'=upd H t (.tup [kV k,y]),λi H=>H a=some (.frz o (.dK kvs))/\i=kvs.length⟩
def J2:entryFor table "dict_itemiterator.__iter__"=some Builtin.«dict_keyiterator.__iter__»:=entryFor_alias (id' :="dict_keyiterator.__iter__") (by kernel_rfl) rfl (by decide +kernel) (by kernel_rfl)
def XM{it d:Addr}{n ep:Nat}{ok ov:Value}{Q:Β}(st:IsItemIter s.heap it d i n ep ok ov)(q:Q (.ref it) s):wpAny (model P w) A (pyIter (.ref it)) Q E s:=by
 have ty:s.TypeIs (.ref it) "dict_itemiterator":=⟨_,st,rfl⟩;exact wpAny_pyIter_slot ty F.slot_dict_itemiterator_iter (wpAny_call_entry F.slot_dict_itemiterator_iter ty J2 (ZT ⟨_,rfl,"dict_itemiterator",_,ty,F.slot_dict_itemiterator_next.lookup,q⟩) (F.args_dict_itemiterator_iter_1 _))
def Ei{ob:Obj}(e:(h.push o).get? b=some ob)(hs:b≠h.objs.size):h.get? b=some ob:=by
 obtain⟨e1,e2⟩:=Heap.get?_some_iff.mp e;refine Heap.get?_some_iff.mpr ⟨?_,e2⟩;cases h;simpa[Heap.push,Array.getElem?_push,hs]using e1
def V0{x1}(it a:Addr)(o:Obj)(kvs:xF)(vs:List (Key×Value))(ep:Nat)(rel:KV kvs vs)(hD:∀h:Heap,h.get? a=some o->h.DictAt (gG P w) a vs ep) :
  Turn P w K (.Tuple bi x1 pos) (Itp a o kvs) [it] it (λi h=>∃ok ov,IsItemIter h it a i vs.length ep ok ov) where
 mem:=by simp
 obj:=by
  rintro i h ⟨ok,ov,st⟩ b hb;have e:b=it:=by simpa using hb
  subst e;exact⟨_,st,λv z=>by cases z⟩
 keep:=λi h h' ⟨ok,ov,st⟩ k=>⟨ok,ov,k it wr _ st⟩
 item:=by
  intro X hP hw hK hc i aa s σ H E I hf st hg;subst hP hw hK;obtain⟨ok,ov,st⟩:=st;obtain⟨hg,eT⟩:=hg;obtain⟨ho,_⟩:=(show eZ X.prog X.w H s.heap a (.frz o (.dK kvs))from I.hok a _ hg);obtain⟨f0,f1,f2,f3,f4,f5⟩:=hf it wr;obtain⟨⟨k,y⟩,hx⟩ : ∃p,kvs[i]?=some p:=⟨kvs[i],by simp[eT]⟩;obtain⟨u,hu,ru⟩:=rel.at hx;refine wpAny_pyNext_items_item st (hD _ ho) hu λci h' fx out ht hz hk=>⟨_,rfl,?_⟩;refine wpAny_letOwnedTupleGo_items out λh2 fN sb=>?_;have nt:H s.heap.objs.size=none:=I.fresh;have ne:it≠s.heap.objs.size:=aQ (aK st);have I1:=I.laid (a:=s.heap.objs.size) (o:=.tup [kV k,y]) (h':=s.heap.push { cls:=.type "tuple",data:=.seq #[ci,u] }) (t':=s.toks) (λb q z=>aH _ z) (aG _)
   ⟨(by show 2<=sizeLine;decide),[ci,u],.cons (agh fx) (.cons ru .nil),_,aW _ rfl,rfl,_,rfl⟩
  have I2:=I1.turned (it:=it) (h':=h2) (t':=s.toks) (λb ob hb e=>by
   refine(sb.2 b hb).trans ?_;by_cases hs:b=s.heap.objs.size
   .subst hs;have e2:=aW s.heap (o:={ cls:=.type "tuple",data:=.seq #[ci,u] }) rfl;have e:(s.heap.push { cls:=.type "tuple",data:=.seq #[ci,u] }).get? s.heap.objs.size=some ob:=e;rw[e2]at e;cases e;exact ht
   .exact hk b _ hb (Ei e hs)) ((bU ne).trans f0) f1 f3 f4 f5
  exact⟨.ref _,_,I2,rfl,⟨k,y,_,hx,nt,rfl,rfl⟩,⟨_,_,fN⟩,λb hb=>by
   have e:b=it:=by simpa using hb
   subst e;exact(bU ne).trans f0⟩
 done:=by
  intro X hP hw hK hc i aa s σ H E I hf st hg;subst hP hw hK;obtain⟨ok,ov,st⟩:=st;obtain⟨hg,rfl⟩:=hg;obtain⟨ho,_⟩:=(show eZ X.prog X.w H s.heap a (.frz o (.dK kvs))from I.hok a _ hg);obtain⟨f0,f1,f2,f3,f4,f5⟩:=hf it wr;have hl:=rel.length;exact wpAny_pyNext_items_end (I.ok.hd hc) st (hD _ ho) (by simp;exact WG (Eq.symm hl)) λh' eb=>⟨rfl,I.turned (t':=s.toks) (λb ob hb e=>eb b ob hb e) f0 f1 f3 f4 f5⟩
 self:=λ_ _ _ _ _ ⟨_,_,st⟩ h=>XM st h
def ahd(te:TE):TI:=λσ H R=>te σ H λx H1=>∃a kvs,x=.ref a/\H1 a=some (.dK kvs)/\∀o,R (Itp a o kvs) (upd H1 a (.frz o (.dK kvs)))
def ac0{x1}{aw:Pos}(hl:PE X l tl)(hb:attributeBase l "items" X.env (eval l X.env)=eval l X.env)(hn:zw ag pos):PI X (.Tuple bi x1 aw) (.Call (.Attribute l "items" ag) [] [] pos) (ahd tl):=by
 intro aa s σ H R I h;refine wpAny_Call_method (T:="dict") (id:="dict.items") hb rfl hn PySem.F.plainAttrs_dict PySem.F.slot_dict_items PySem.F.type_dict_items (thn (hl aa s σ H _ I h) λv s1 hP=>?_);obtain⟨x,H1,I1,r1,a,kvs,ex,ha,q⟩:=hP;subst ex;cases r1;have ok:=(show eZ X.prog X.w H1 s1.heap a (.dK kvs)from I1.hok a _ ha);obtain⟨z,hd,vs,rel,o,es,ep,e,ex,ed,ek,i',en⟩:=ok;have hD:∀h:Heap,h.get? a=some o->h.DictAt (gG X.prog X.w) a vs ep:=λh e=>⟨o,es,e,ex,ed,ek,i',en⟩;have I2:Inv X aa σ (upd H1 a (.frz o (.dK kvs))) s1:=by
  have:=I1.write (x:=a) (e:=a) (o:=.frz o (.dK kvs)) (h':=s1.heap) (t':=s1.toks) (by rw[ha];exact True.intro) (.inl rfl) (λb u hb z=>z) ⟨o,e⟩ ⟨e,z,hd,vs,rel,o,es,ep,e,ex,ed,ek,i',en⟩;exact this
 have hm:s1.heap.DictOf (gG X.prog X.w) a vs:=⟨o,es,ep,e,ex,ed,ek,i',en⟩;refine⟨hm.typeIs,hm.mapOf.noDict,?_⟩;refine method_meetsIn PySem.F.slot_dict_items PySem.F.entry_dict_items rfl (PySem.evalArgs_none ⟨rfl,hm.typeIs,PySem.F.args_dict_items_1 _,_,meets_dict_items (gG X.prog X.w) a hd,⟨vs,hm⟩,?_⟩);have I3:Inv X aa σ (upd H1 a (.frz o (.dK kvs))) { s1 with heap:=s1.heap.push { cls:=.type "dict_items",data:=.fields #[.ref a] } }:=I2.kept (t':=s1.toks) λb ob z=>aH _ z;refine wpAny_pyIter_items ⟨_,aW _ rfl,rfl,rfl⟩ (hD _ (aH _ e)) ?_;refine⟨_,[_],_,Itp a o kvs,_,rfl,I3.kept (t':=s1.toks) λb ob z=>aH _ z,V0 _ a o kvs vs ep rel hD,⟨_,_,aW _ rfl⟩,λb hb=>?_,q o⟩;rw[YR.mp hb];exact I3.fpOk (aG _) (I3.hok.fresh (aG _))
theorem Tn:∀{ys:Θ}{vs:Δ},z5 (ys.map V.str) vs->StrsAre vs ys
 |[],_,h=>by cases h;exact .nil
 |y::ys,_,h=>by
  rw[List.map_cons]at h;cases h with
  |cons a b =>
   obtain⟨t,rfl⟩:=a;exact .cons y t (Tn b)
def rJoin:V->Ε->Hp->VK->Prop:=λx vs H Q=>∃a l ys,x=.str a/\vs=[.ref l]/\H l=some (.lst (ys.map V.str))/\(ys.map (·.length)).sum+ys.length*a.length<=16777216/\Q (.str (Txt.join a ys)) H
def aen:MtM X "str.join" rJoin:=by
 intro aa s σ H x vs v us Q I rx rv h;obtain⟨a,l,ys,rfl,rfl,hl,hz,q⟩:=h;obtain⟨t,rfl⟩:=rx;obtain⟨u,rfl,ru⟩:=rv.one;cases ru;obtain⟨_,its,n,r,_,e⟩:=I.lstM hl;exact join_list ⟨_,e,rfl,n,rfl⟩ (by simpa using Tn r) hz λt' k=>⟨.str _,H,I.tok _,⟨_,rfl⟩,q⟩
def aaP{i0:Nat}{y0:Str}{py b7:Pos}{xs N':Θ}(E:TQ X scope xs ext fn)(hc:X.calm=true)(g6:Nv xs X.N=N')(ck:scope.kind=.function)(c5:∀y∈scope.names,y.2=.local->scope.names.lookup y.1=some .local)
 (cb:∀y∈scope.names,y.2=.free->X.env.kindOf y.1=some .cell\/X.env.kindOf y.1=some .free)(fq:∀y∈X.N,y∉xs->(relabel scope X.env).names.lookup y≠some .local)(hq:∀y∈X.N,y∈xs->(relabel scope X.env).names.lookup (hid y)=none)(hi:PI X tg iter wi)
 (hg:∀C s₀ H₀ ex pn,PG (X.compE ext fn N' scope xs C s₀ H₀ ex pn) tg gt)(ht:∀C s₀ H₀ ex pn,PTs (X.compE ext fn N' scope xs C s₀ H₀ ex pn) az tc)(he:∀C s₀ H₀ ex pn,PE (X.compE ext fn N' scope xs C s₀ H₀ ex pn) a8 te)(gu:PG X (.Name y0 py) (Ab i0))(gm:swapsWith (.ListComp a8 [⟨tg,iter,az,0⟩] scope pos) (some (.Name y0 py)) b7.line X.env=pure true)(hs:qV X iter) :
  PS X (.Assign [.Name y0 py] (.ListComp a8 [⟨tg,iter,az,0⟩] scope pos) b7) (afn (sS wi xs.length gt tc te) (Ab i0)):=by
 intro aa s σ H D0 I h;have h:sS wi xs.length gt tc te σ H (λx H1=>Ab i0 x σ H1 D0.nx):=h;rw[exec_Assign_Name_used _ _ _ _ gm];refine ZU (wpAny_standAt (ZU ?_));show wpAny _ X.A (comprehension (.ListComp a8 [⟨tg,iter,az,0⟩] scope pos) scope X.env _ (newList []) false (eval iter X.env) (some (assign (.Name y0 py) X.env)) >>= λ_=>_) _ _ s;refine ZU (wpAny_mono (Oa (use:=some (assign (.Name y0 py) X.env)) (post:=λ_ s'=>SP X aa D0 .next s') E hc g6 ck c5 cb fq hq hi hg ht he hs I h λC D Hc s6 m fl ku I6 fC qn=>?_) (λ_ s' hq=>ZT (ZT hq)) λ_ _ e=>e);obtain⟨oc,es,ep,ho,oy,_⟩:=id ku;have I7:=I6.pinned (fp:=[C]) (λb hb=>by rwa[YR.mp hb]) λb hb=>by
  rw[YR.mp hb];exact⟨oc,ho,λv z=>by rw[oy]at z;cases z⟩
 show wpAny _ X.A (assign (.Name y0 py) X.env _) _ _ s6;refine thn (gu _ s6 σ Hc (.ref D) _ D0.nx I7 rfl qn) λ_ s7 hP=>?_;obtain⟨σ7,H7,Z7,q7⟩:=hP;have pn7:=Z7.pin (C,oc) (aP _ (aP _ (qL wr ho)));refine⟨m,ku.at' λo e=>?_,λh' ng=>⟨σ7,H7,Z7.unpinned.turned (it:=C) (h':=h') (t':=s7.toks) (λb o hb e=>(ng.2 b hb).trans e) pn7.2.1 fC.2.1 fC.2.2.2.1 fC.2.2.2.2.1 fC.2.2.2.2.2,q7⟩⟩;rw[ho]at e;cases e;exact pn7.1
def Inv.turnedL{t':Nat}{ch:Φ}(I:Inv X aa σ H s)(k:∀b o,b∉ch->s.heap.get? b=some o->h'.get? b=some o)(hf:∀b∈ch,G6 X aa H b):Inv X aa σ H { s with heap:=h',toks:=t' }:=by
 have j':∀b u,H b=some u->b∉ch:=λb u e z=>by rw[(hf b z).1]at e;cases e
 refine I.step (g':=s.gens) (d':=s.drawn) (ch:=ch) (λb hb=>⟨(hf b hb).2.2.2.1,(hf b hb).2.1,(hf b hb).2.2.2.2.1,(hf b hb).2.2.2.2.2⟩) (λb o _ _ hc e _=>k b o hc e) (λb o _ _ hc e _=>⟨o.slots,k b o hc e⟩) (λ_ _ _ _ n=>n) (λb o hc e=>⟨o,k b o hc e⟩) (λ_ _ e=>e) (λ_ _ _ e=>e) (λb ps e=>⟨#[],by rw[e];simp⟩) (λm hm=>?_) (λb u e=>?_) I.bare
 .obtain⟨o,es,ep,ho,r⟩:=hm;exact⟨o,es,ep,k _ o (λz=>(hf _ z).2.1 rfl) ho,r⟩
 .refine(I.hok b u e).stay (λc v hc q=>k c v ?_ q) (λ_ q=>q) λ_ _ q=>q;rcases hc with z|z
  .rw[z];exact j' b u e
  .exact j' c _ z
def Itz(a b:Addr):It:=⟨λi H=>∃xs ys,H a=some (.lst xs)/\H b=some (.lst ys)/\i<xs.length/\i<ys.length,λi H v H'=>∃xs ys x y t,H a=some (.lst xs)/\H b=some (.lst ys)/\xs[i]?=some x/\ys[i]?=some y/\H t=none/\v=.ref t/\H'=upd H t (.tup [x,y]),λi H=>∃xs ys,H a=some (.lst xs)/\H b=some (.lst ys)/\(xs.length<=i\/ys.length<=i)⟩
def pJ{g:Heap}{l:Addr}(x:h.IsListIter a l i)(k:∀o,h.get? a=some o->g.get? a=some o):g.IsListIter a l i:=by obtain⟨o,e,r⟩:=x;exact⟨o,k o e,r⟩
def Pz{vs:Δ} : z5 xs vs->∀{i:Nat}{x:V},xs[i]?=some x->∃u,vs[i]?=some u/\z4 x u:=by
 intro h
 induction h with
 |nil=>intro i x e;cases e
 |cons a b ih =>
  intro i x e;cases i with
  |zero=>rw[List.getElem?_cons_zero]at e;cases e;exact⟨_,rfl,a⟩
  |succ i=>rw[List.getElem?_cons_succ]at e ⊢;exact ih e
def aaQ{x1}(z TI TO i1 i2 l1 l2:Addr)(D:ZipApart z TI TO i1 i2 l1 l2) :
  Turn P w K (.Tuple bi x1 pos) (Itz l1 l2) [z,TI,TO,i1,i2] z (λi h=>IsZip h z TI TO .none/\IsPair h TI (.ref i1) (.ref i2)/\(∃p q,IsPair h TO p q)/\h.IsListIter i1 l1 i/\h.IsListIter i2 l2 i) where
 mem:=by simp
 obj:=by
  rintro i h ⟨s1,s2,⟨p,q,s3⟩,⟨o4,s4,_,d4⟩,⟨o5,s5,_,d5⟩⟩ b hb;simp only[YU,VY,or_false]at hb;rcases hb with rfl|rfl|rfl|rfl|rfl
  .exact⟨_,s1,λv e=>by cases e⟩
  .exact⟨_,s2,λv e=>by cases e⟩
  .exact⟨_,s3,λv e=>by cases e⟩
  .exact⟨_,s4,λv e=>by rw[d4]at e;cases e⟩
  .exact⟨_,s5,λv e=>by rw[d5]at e;cases e⟩
 keep:=λi h h' ⟨s1,s2,⟨p,q,s3⟩,s4,s5⟩ k=>⟨k z wr _ s1,k TI wr _ s2,⟨p,q,k TO wr _ s3⟩,pJ s4 (k i1 wr),pJ s5 (k i2 wr)⟩
 item:=by
  intro X hP hw hK hc i aa s σ H E I hf st hg;subst hP hw hK;obtain⟨s1,s2,⟨p,q,s3⟩,s4,s5⟩:=st;obtain⟨xs,ys,ha,hb,mB,lt2⟩:=hg;obtain⟨_,fh,n1,gV,le1,g1⟩:=I.lstM ha;obtain⟨_,ki,n2,mn,le2,g2⟩:=I.lstM hb;have ex:xs[i]?=some xs[i]:=aj mB;have ey:ys[i]?=some ys[i]:=aj lt2;obtain⟨u,hu,ru⟩:=Pz gV ex;obtain⟨v,hv,rv⟩:=Pz mn ey;refine wpAny_pyNext_zip_item D s1 s2 s3 s4 s5 (xs:=fh.toArray) (ys:=ki.toArray) ⟨_,g1,rfl,n1,rfl⟩ ⟨_,g2,rfl,n2,rfl⟩ (x:=u) (y:=v) (by simpa using hu) (by simpa using hv) λh' a1 a2 a3 a4 a5 a6 a7=>⟨_,rfl,?_⟩;refine wpAny_letOwnedTupleGo_zip a1 λh2 fN sb=>?_;have nt:H s.heap.objs.size=none:=I.fresh;have I1:=I.laid (a:=s.heap.objs.size) (o:=.tup [xs[i],ys[i]]) (h':=s.heap.push { cls:=.type "tuple",data:=.seq #[u,v] }) (t':=s.toks) (λb q z=>aH _ z) (aG _)
   ⟨(by show 2<=sizeLine;decide),[u,v],.cons ru (.cons rv .nil),_,aW _ rfl,rfl,_,rfl⟩
  have nz:z≠s.heap.objs.size:=aQ (aK s1);have nO:TO≠s.heap.objs.size:=aQ (aK s3);have nI:TI≠s.heap.objs.size:=aQ (aK s2);have mx:i1≠s.heap.objs.size:=by obtain⟨o,e,_⟩:=s4;exact aQ (aK e)
  have n2':i2≠s.heap.objs.size:=by obtain⟨o,e,_⟩:=s5;exact aQ (aK e)
  have kK:∀b∈[z,TI,TO,i1,i2],upd H s.heap.objs.size (.tup [xs[i],ys[i]]) b=none:=by
   intro b hb;have f0:=(hf b hb).1;simp only[YU,VY,or_false]at hb;rcases hb with rfl|rfl|rfl|rfl|rfl
   .exact(bU nz).trans f0
   .exact(bU nI).trans f0
   .exact(bU nO).trans f0
   .exact(bU mx).trans f0
   .exact(bU n2').trans f0
  have I2:=I1.turnedL (ch:=[z,TO,i1,i2]) (h':=h2) (t':=s.toks) (λb ob hb e=>by
   simp only[YU,VY,or_false,not_or]at hb;obtain⟨b1,b2,b3,b4⟩:=hb;refine(sb.2 b b1).trans ?_;by_cases hs:b=s.heap.objs.size
   .subst hs;have e2:=aW s.heap (o:={ cls:=.type "tuple",data:=.seq #[u,v] }) rfl;have e:(s.heap.push { cls:=.type "tuple",data:=.seq #[u,v] }).get? s.heap.objs.size=some ob:=e;rw[e2]at e;cases e;exact a5
   .exact a7 b _ b1 b2 b3 b4 (Ei e hs)) λb hb=>by
    have eP:b∈[z,TI,TO,i1,i2]:=by
     simp only[YU,VY,or_false]at hb ⊢;rcases hb with h|h|h|h<;>simp[h]
    exact⟨kK b eP,(hf b eP).2⟩
  have mv:∀c o,c≠z->h'.get? c=some o->h2.get? c=some o:=λc o n e=>(sb.2 c n).trans e;exact⟨.ref _,_,I2,rfl,⟨xs,ys,_,_,_,ha,hb,ex,ey,nt,rfl,rfl⟩,⟨fN,mv _ _ D.TIz (a7 _ _ D.TIz D.TITO D.TIi1 D.TIi2 s2),⟨_,_,mv _ _ D.TOz a2⟩,pJ a3 λo e=>mv _ _ D.i1z e,pJ a4 λo e=>mv _ _ D.i2z e⟩,kK⟩
 done:=by
  intro X hP hw hK hc i aa s σ H E I hf st hg;subst hP hw hK;obtain⟨s1,s2,⟨p,q,s3⟩,s4,s5⟩:=st;obtain⟨xs,ys,ha,hb,lt⟩:=hg;obtain⟨_,fh,n1,gV,le1,g1⟩:=I.lstM ha;obtain⟨_,ki,n2,mn,le2,g2⟩:=I.lstM hb;refine wpAny_pyNext_zip_end (I.ok.hd hc) D s1 s2 s3 s4 s5 (xs:=fh.toArray) (ys:=ki.toArray) ⟨_,g1,rfl,n1,rfl⟩ ⟨_,g2,rfl,n2,rfl⟩ (by simp;lia) λh' k=>⟨rfl,I.turnedL (ch:=[z,TO,i1,i2]) (t':=s.toks) (λb ob hb e=>?_) λb hb=>?_⟩
  .simp only[YU,VY,or_false,not_or]at hb;exact k b ob hb.1 hb.2.1 hb.2.2.1 hb.2.2.2 e
  .exact hf b (by
    simp only[YU,VY,or_false]at hb ⊢;rcases hb with h|h|h|h<;>simp[h])
 self:=λ_ _ _ _ _ ⟨s1,_⟩ h=>wpAny_pyIter_zip s1 h
def aar(n l1 l2:Nat)(h1:l1<n)(h2:l2<n):ZipApart (n+4) (n+2) (n+3) n (n+1) l1 l2:=by
 constructor<;>first|exact aQ (by omega)|exact VV wo
def ad7(n b:Nat)(h:b=n+4\/b=n+2\/b=n+3\/b=n\/b=n+1):n<=b:=by lia
def boot_zip:bootBuiltins "zip"=some (.type "zip"):=by decide +kernel
def aoI(ta:TA):TI:=λσ H R=>ta σ H λvs H1=>∃a b xs ys,vs=[.ref a,.ref b]/\H1 a=some (.lst xs)/\H1 b=some (.lst ys)/\R (Itz a b) H1
def ahs{a b:Expr}{ta:TA}{x1}{aw:Pos}(hg:Gl X "zip")(hm:X.mg "zip"=none)(ha:PA X [a,b] ta)(hs:starEach [a,b] X.env=[(false,eval a X.env),(false,eval b X.env)]:=by rfl)(eJ:starEach [b] X.env=[(false,eval b X.env)]:=by rfl) :
  PI X (.Tuple bi x1 aw) (.Call (.Name "zip" p) [a,b] [] pos) (aoI ta):=by
 intro aa s σ H R I h;refine Call_ (Ao I hg hm boot_zip (PyProof.Rows.callWith_type1 (thn (ha pos aa s σ H _ I h) λus s1 hP=>?_) (by rw[hs,eJ]) (by rw[eJ];rfl)));obtain⟨vs,H1,I1,r1,q1⟩:=hP;obtain⟨l1,l2,xs,ys,e,h1,h2,q⟩:=q1;subst e;obtain⟨u,v,rfl,ru,rv⟩:=r1.two;cases ru;cases rv;obtain⟨_,fh,n1,gV,le1,g1⟩:=I1.lstM h1;obtain⟨_,ki,n2,mn,le2,g2⟩:=I1.lstM h2;have z1:=aK g1;have z2:=aK g2;refine call_zip_2 (xs:=fh.toArray) (ys:=ki.toArray) ⟨_,g1,rfl,n1,rfl⟩ ⟨_,g2,rfl,n2,rfl⟩ λh' a1 a2 a3 a4 a5 a6 a7=>?_;refine wpAny_pyIter_zip a1 ?_;refine⟨_,[s1.heap.objs.size+4,s1.heap.objs.size+2,s1.heap.objs.size+3,s1.heap.objs.size,s1.heap.objs.size+1],_,Itz l1 l2,H1,rfl,I1.kept (t':=s1.toks) λb ob e=>a7 b ob e,aaQ _ _ _ _ _ l1 l2 (aar _ _ _ z1 z2),⟨a1,a2,⟨_,_,a3⟩,a4,a5⟩,λb hb=>?_,q⟩;have eP:s1.heap.objs.size<=b:=by
  simp only[YU,VY,or_false]at hb;exact ad7 _ _ hb
 exact I1.fpOk eP (I1.hok.fresh eP)
def rlb(sc scope:Scope):Scope:={ scope with names:=scope.names.map λ(n,k)=>if(k==NameKind.free&&sc.kind == .function&&sc.names.lookup n==some .cell)then(n,NameKind.cell)else(n,k) }
theorem X8(c:Nat):∀(n:Nat)(acc:Array Nat),((List.replicate n #[c]).foldl (· ++ ·) acc).toList=acc.toList++List.replicate n c
 |0,acc=>by simp
 |n+1,acc=>by
  rw[List.replicate_succ,List.foldl_cons,X8 c n,Array.toList_append,Wp]
  rfl
def amD:R2:=λx y H Q=>∃c n,x=.str ⟨#[c]⟩/\y=.int n/\1<=n/\n<=1000/\∀z:Str,z.cps.toList=List.replicate n.toNat c->Q (.str z) H
def aee:OpR X (binaryOp .Mult) amD:=by
 intro aa s σ H x y v u Q I rx ry h;obtain⟨c,n,rfl,rfl,h0,h1,q⟩:=h;obtain⟨t,rfl⟩:=rx;obtain⟨t',rfl⟩:=ry;have hi:(⟨#[c]⟩ : Str).length=1:=rfl;have made:∀z:Str,z.cps.toList=List.replicate n.toNat c->(Made.str z).post (EP X aa σ Q) s:=λz hz=>⟨by
  have:z.length=n.toNat:=by
   show z.cps.size=_;rw[<- Array.length_toList,hz,aN]
  exact aL (show z.length<=1001 by lia) wp,.str z,H,I.tok _,⟨_,rfl⟩,q z hz⟩
 refine PySem.P.mul_str ?_ (λ_ _=>?_) (λ_ _=>?_) ?_
 .rw[Zp wo,Zp wo];rfl
 .rw[hi];have:1<=(2^63-1:Int)/n:=Int.le_ediv_of_mul_le (by omega) wo;lia
 .rw[hi];unfold Builtin.Str.tooLong;exact Zp (by
   have:n.toNat<=1000:=by lia
   have e:1000<=sizeLine:=by decide
   lia)
 .split
  .lia
  .split
   .rename_i hc
    rw[hi]at hc;have e:n.toNat=1:=by
     simp at hc;lia
    refine⟨.str ⟨#[c]⟩,H,I,⟨t,rfl⟩,q _ ?_⟩;rw[e];rfl
   .refine made _ ?_;show((List.replicate n.toNat #[c]).foldl (· ++ ·) #[]).toList=_;rw[X8];rfl
def Cx.compGC(X:Cx)(N':Θ)(scope:Scope)(x0:Str)(C:Addr)(s₀:Shared)(H₀:Hp)(ex:Φ)(pn:Γ):Cx :=
 { X with env:=compEnvC scope ((x0,C+1)::uz X.env.cells scope.names []) C X.env,N:=[x0]++N',s₀:=s₀,H₀:=H₀,outer:=X.stack,ex:=ex,fn:=λz=>z==x0,pn:=pn,xe:=λ_ _=>False }
theorem zV{env:Env}{x0:Str} : ∀{names:xD}{y:Str},y≠x0->((names.map λ(n,k)=>if(k==NameKind.free&&env.scope.kind == .function&&env.kindOf n==some .cell)then(n,NameKind.cell)else(n,k)).lookup y=some .cell \/
  (names.map λ(n,k)=>if(k==NameKind.free&&env.scope.kind == .function&&env.kindOf n==some .cell)then(n,NameKind.cell)else(n,k)).lookup y=some .free)->(∀z∈names,z.2=.cell->z.1=x0)->(y,NameKind.free)∈names
 |[],y,_,h,_=>by rcases h with h|h<;>cases h
 |(n,k)::r,y,ny,h,hc=>by
  have ih:=@zV env x0 r y ny;have dk:∀z∈r,z.2=.cell->z.1=x0:=λz hz=>hc z (aJ _ hz);simp only[List.map_cons]at h;by_cases hcond:(k==NameKind.free&&env.scope.kind == .function&&env.kindOf n==some .cell)=true
  .rw[ZY hcond]at h;have hk:k=.free:=by
    simp only[JY,beq_iff_eq]at hcond;exact hcond.1.1
   subst hk;simp only[List.lookup_cons]at h;cases hb:y==n with
   |true=>rw[show y=n by simpa using hb];exact aO
   |false=>rw[hb]at h;exact aJ _ (ih h dk)
  .rw[ZZ hcond]at h;simp only[List.lookup_cons]at h;cases hb:y==n with
   |true =>
    have e:y=n:=by simpa using hb
    rw[hb]at h;rcases h with h|h
    .cases h;exact absurd (e.trans (hc (n,.cell) aO rfl)) ny
    .cases h;rw[e];exact aO
   |false=>rw[hb]at h;exact aJ _ (ih h dk)
def Lr{globals:Addr}{bE:xw}{outer:Env}{Q:Env->Shared->Prop}(gx:∀n acc,cellsFrom n scope.names acc=(x0,n)::acc)(gp:∀h,pushCells h scope.names=h.push { cls:=.type "cell",data:=.cell none })
 (hQ:∀g,g.Ns s.heap.objs.size (λx=>([] : xh).reverse.lookup x)->g.IsCell (s.heap.objs.size+1) none->(∀b o,s.heap.get? b=some o->g.get? b=some o)->Q (newEnv scope s.heap.objs.size globals ((x0,s.heap.objs.size+1)::bE) ah none .none (some outer) builtinsNs) { s with heap:=g,toks:=s.toks+([] : xh).length }) :
  wpAny M A (newFunctionEnv scope globals bE [] ah none .none (some outer)) Q E s:=by
 simp only[newFunctionEnv,Option.isSome_some,if_true];refine ZU (wpAny_alloc ?_);refine ZU (wpAny_layCells _ (λname kind cells=>by cases hkc:kind==NameKind.cell<;>simp[hkc]) _ _ _ _ ?_);rw[gx,gp];have z1:(s.heap.push { cls:=.type "dict",data:=.dict #[] }).objs.size=s.heap.objs.size+1:=Heap.size_push ..;show wpAny _ _ (forIn ([] : xh) _ _ >>= _) _ _ _;rw[List.forIn_nil];refine ZU (ZT (ZT ?_));have c1:=aW (s.heap.push { cls:=.type "dict",data:=.dict #[] }) (o:={ cls:=.type "cell",data:=.cell none }) rfl;rw[z1]at c1;show Q (newEnv scope s.heap.objs.size globals ((x0,(s.heap.push { cls:=.type "dict",data:=.dict #[] }).objs.size)::bE) ah none .none (some outer) builtinsNs) _;rw[z1];exact hQ _ ((Heap.Ns.new s.heap (.type "dict")).at' λo e=>aH _ e) ⟨_,c1,rfl⟩ λb o e=>aH _ (aH _ e)
def Zh{y:Str}{d c:Addr}(e : [(x0,d)].lookup y=some c):y=x0/\c=d:=by
 rw[List.lookup_cons]at e;cases hy:y==x0 with
 |true=>rw[hy]at e;cases e;exact⟨by simpa using hy,rfl⟩
 |false=>rw[hy]at e;cases e
def ext1(gx:∀n acc,cellsFrom n scope.names acc=(x0,n)::acc)(gp:∀h,pushCells h scope.names=h.push { cls:=.type "cell",data:=.cell none })(oP:∀y∈scope.names,y.2=.cell->y.1=x0):TQ X scope [x0] (λC=>[(x0,C+1)]) (λz=>z==x0) :=
 ⟨λhQ=>Lr gx gp λg eM iN kg=>hQ g eM (λy c e=>by rwa[(Zh e).2]) kg,λC y c e=>by rw[(Zh e).2];exact X0 _,λC y z c e1 e2=>(Zh e1).1.trans (Zh e2).1.symm,λC y e=>⟨C+1,by rw[beq_iff_eq.mp e];exact List.lookup_cons_self⟩,λC y e=>by
  rw[List.lookup_cons,beq_eq_false_iff_ne.mpr λz=>e (by rw[z];simp)]
  rfl,λC y e=>by
  by_cases ny:y=x0
  .exact .inl ⟨C+1,by rw[ny];exact List.lookup_cons_self⟩
  .exact .inr (zV ny e oP)⟩
def ane:Ε->Hp->VK->Prop:=λxs H Q=>∃(l:Addr)(bs:xk),xs=[.ref l]/\H l=some (.lst (bs.map V.bl))/\Q (.bl (bs.any id)) H
theorem vJ:∀bs:xk,((List.range bs.length).any λi=>(bs[i]?).getD true)=bs.any id
 |[]=>rfl
 |b::bs=>by
  rw[List.length_cons,List.range_succ_eq_map,List.any_cons,UR,List.any_cons];have:=vJ bs;simp only[Function.comp_def,List.getElem?_cons_succ,List.getElem?_cons_zero,Option.getD_some,id]at this ⊢;rw[this]
def aaw(hc:X.calm=true):ig X (.builtin "any") ane:=by
 intro aa s σ H xs us Q I r h;obtain⟨l,bs,rfl,hl,q⟩:=h;obtain⟨u,rfl,ru⟩:=r.one;cases ru;obtain⟨its,rv,p⟩:=I.lstIs hl;have eT:l<s.heap.objs.size:=by obtain⟨_,e,_⟩:=p;exact aK e
 refine call_any_walk (wpAny_pyIter_list p ?_);refine⟨s.heap.objs.size,[s.heap.objs.size,l],[s.heap.objs.size],its.toArray.size,_,_,λi=>(bs[i]?).getD true,rfl,Walks.list (A:=X.A.in1) (I.ok.hd hc) _ l (aQ eT) its.toArray,
  ⟨⟨_,aW _ rfl,rfl,rfl⟩,p.push _⟩,λi v s' Q' E' hP hQ=>?_,λh' tk hk=>?_⟩
 .obtain⟨b,e,rfl⟩:=Eo rv i v (by simpa using hP);simp only[e,Option.getD_some]at hQ;exact wpAny_truthy_bool hQ
 .have e:((List.range its.toArray.size).any λi=>(bs[i]?).getD true)=bs.any id:=by
   rw[aX,<- rv.length,ak];exact vJ bs
  refine⟨.bl (bs.any id),H,I.kept (t':=tk) λb o q=>hk b o (λhm=>?_) (aH _ q),?_,q⟩
  .rw[YR.mp hm]at q;exact X2 _ (aK q)
  .rw[e];rfl
def Ite(l:Addr):It:=⟨λi H=>∃xs,H l=some (.lst xs)/\i<xs.length,λi H v H'=>∃xs x t,H l=some (.lst xs)/\xs[i]?=some x/\H t=none/\v=.ref t/\H'=upd H t (.tup [.int i,x]),λi H=>∃xs,H l=some (.lst xs)/\xs.length<=i⟩
def aax{x1}(e it l:Addr)(fS:e≠it) :
  Turn P w K (.Tuple bi x1 pos) (Ite l) [e,it] e (λi h=>(∃old,IsEnum h e it ((i:Nat):Int) old)/\h.IsListIter it l i) where
 mem:=by simp
 obj:=by
  rintro i h ⟨⟨old,s1⟩,⟨o4,s4,_,d4⟩⟩ b hb;simp only[YU,VY,or_false]at hb;rcases hb with rfl|rfl
  .exact⟨_,s1,λv e=>by cases e⟩
  .exact⟨_,s4,λv e=>by rw[d4]at e;cases e⟩
 keep:=λi h h' ⟨⟨old,s1⟩,s4⟩ k=>⟨⟨old,k e wr _ s1⟩,pJ s4 (k it wr)⟩
 item:=by
  intro X hP hw hK hc i aa s σ H E I hf st hg;subst hP hw hK;obtain⟨⟨old,s1⟩,s4⟩:=st;obtain⟨xs,ha,mB⟩:=hg;obtain⟨_,fh,n1,gV,le1,g1⟩:=I.lstM ha;have ex:xs[i]?=some xs[i]:=aj mB;obtain⟨u,hu,ru⟩:=Pz gV ex;refine wpAny_pyNext_enum_item s1 s4 (items:=fh.toArray) ⟨_,g1,rfl,n1,rfl⟩ (x:=u) (by simpa using hu) fS λh' a1 a3 a5 a6 a7=>⟨_,rfl,?_⟩;refine wpAny_letOwnedTupleGo_enum a1 λh2 fN sb=>?_;have nt:H s.heap.objs.size=none:=I.fresh;have I1:=I.laid (a:=s.heap.objs.size) (o:=.tup [.int i,xs[i]]) (h':=s.heap.push { cls:=.type "tuple",data:=.seq #[.int i s.toks,u] }) (t':=s.toks+1) (λb q z=>aH _ z) (aG _)
   ⟨(by show 2<=sizeLine;decide),[.int i s.toks,u],.cons ⟨_,rfl⟩ (.cons ru .nil),_,aW _ rfl,rfl,_,rfl⟩
  have nz:e≠s.heap.objs.size:=aQ (aK s1);have mx:it≠s.heap.objs.size:=by obtain⟨o,e,_⟩:=s4;exact aQ (aK e)
  have kK:∀b∈[e,it],upd H s.heap.objs.size (.tup [.int i,xs[i]]) b=none:=by
   intro b hb;have f0:=(hf b hb).1;simp only[YU,VY,or_false]at hb;rcases hb with rfl|rfl
   .exact(bU nz).trans f0
   .exact(bU mx).trans f0
  have I2:=I1.turnedL (ch:=[e,it]) (h':=h2) (t':=s.toks+1) (λb ob hb z=>by
   simp only[YU,VY,or_false,not_or]at hb;obtain⟨b1,b3⟩:=hb;refine(sb.2 b b1).trans ?_;by_cases hs:b=s.heap.objs.size
   .subst hs;have e2:=aW s.heap (o:={ cls:=.type "tuple",data:=.seq #[.int i s.toks,u] }) rfl;have z:(s.heap.push { cls:=.type "tuple",data:=.seq #[.int i s.toks,u] }).get? s.heap.objs.size=some ob:=z;rw[e2]at z;cases z;exact a5
   .exact a7 b _ b1 b3 (Ei z hs)) λb hb=>⟨kK b hb,(hf b hb).2⟩
  have mv:∀c o,c≠e->h'.get? c=some o->h2.get? c=some o:=λc o n z=>(sb.2 c n).trans z;exact⟨.ref _,_,I2,rfl,⟨xs,_,_,ha,ex,nt,rfl,rfl⟩,⟨⟨_,by rwa[Int.natCast_add]⟩,pJ a3 λo z=>mv _ _ (λy=>fS y.symm) z⟩,kK⟩
 done:=by
  intro X hP hw hK hc i aa s σ H E I hf st hg;subst hP hw hK;obtain⟨⟨old,s1⟩,s4⟩:=st;obtain⟨xs,ha,lt⟩:=hg;obtain⟨_,fh,n1,gV,le1,g1⟩:=I.lstM ha;have hl:=gV.length;refine wpAny_pyNext_enum_end (I.ok.hd hc) s1 s4 (items:=fh.toArray) ⟨_,g1,rfl,n1,rfl⟩ (by simp;lia) λh' k=>⟨rfl,I.turnedL (ch:=[e,it]) (t':=s.toks) (λb ob hb z=>?_) hf⟩;simp only[YU,VY,or_false,not_or]at hb;exact k b ob hb.2 z
 self:=λ_ _ _ _ _ ⟨⟨_,s1⟩,_⟩ h=>wpAny_pyIter_enum s1 h
def ajx(ta:TA):TI:=λσ H R=>ta σ H λvs H1=>∃a xs,vs=[.ref a]/\H1 a=some (.lst xs)/\R (Ite a) H1
def af3{a:Expr}{ta:TA}{x1}{aw:Pos}(hg:Gl X "enumerate")(hm:X.mg "enumerate"=none)(ha:PA X [a] ta)(hs:starEach [a] X.env=[(false,eval a X.env)]:=by rfl) :
  PI X (.Tuple bi x1 aw) (.Call (.Name "enumerate" p) [a] [] pos) (ajx ta):=by
 intro aa s σ H R I h;refine Call_ (Ao I hg hm boot_enumerate (PyProof.Rows.callWith_type1 (thn (ha pos aa s σ H _ I h) λus s1 hP=>?_) (by rw[hs];rfl) (by rfl)));obtain⟨vs,H1,I1,r1,q1⟩:=hP;obtain⟨l1,xs,e,h1,q⟩:=q1;subst e;obtain⟨u,rfl,ru⟩:=r1.one;cases ru;obtain⟨_,fh,n1,gV,le1,g1⟩:=I1.lstM h1;refine call_enumerate_list (items:=fh.toArray) ⟨_,g1,rfl,n1,rfl⟩ λh' a1 a2 a3 a7=>?_;refine wpAny_pyIter_enum a1 ?_;refine⟨_,[s1.heap.objs.size+1,s1.heap.objs.size],_,Ite l1,H1,rfl,I1.kept (t':=s1.toks) λb ob e=>a7 b ob e,aax _ _ l1 (Nat.succ_ne_self _),⟨⟨_,a1⟩,a2⟩,λb hb=>?_,q⟩;have eP:s1.heap.objs.size<=b:=by
  simp only[YU,VY,or_false]at hb;rcases hb with z|z
  .rw[z];exact Xs _
  .rw[z];exact aG _
 exact I1.fpOk eP (I1.hok.fresh eP)
def OkV(P:Program)(w:World)(K:Frag)(mg:Str->Ψ)(base:Heap)(k:Nat)(f:Addr)(ps:Θ)(sp:Sp):Prop:=∃fd,d9 P w K mg base CX0 k f fd ps sp/\Binds K fd ps []/\keepIn K (.ref f)=true
def OkF.val(G:OkF P w K mg base k x ps sp):∃f,mg x=some (.ref f)/\OkV P w K mg base k f ps sp :=
 let⟨f,fd,F,b,hm,kp⟩:=G
 ⟨f,hm,fd,F,b,kp⟩
def aiL(f:Addr)(sp:Sp)(tv:TE)(t:TA):TE:=λσ H Q=>tv σ H λv H0=>v=.ref f/\t σ H0 λvs H1=>sp vs H1 Q E0
def aaO(G:OkV X.prog X.w X.K X.mg X.base k f ps sp)(hr:dH k X.A)(hv:PE X (.Name x p) tv)(ha:PA X (e::es) t)
 (he:qo X e es:=by rfl)(aE:qh X pos es:=by rfl):PE X (.Call (.Name x p) (e::es) [] pos) (aiL f sp tv t):=by
 obtain⟨fd,F,b,hk⟩:=G;intro aa s σ H Q I h;refine wpAny_Call_Name_kw (thn (hv aa s σ H _ I h) ?_);rintro u s0 ⟨v,H0,I0,r0,rfl,q0⟩;cases r0;refine callWith_K (h₀:=X.base) I0.ok.mod.kin hk (thn (ha pos aa s0 σ H0 _ I0 q0) λus s1 ⟨vs,H1,I1,r,q⟩=>⟨I1.kIn,?_⟩) he aE;refine Jd F hr b .nil Jg I1 r ?_;rwa[List.append_nil]
section
variable{prog:Program}{w:World}{A:Around}{E:Β}{h:Heap}{g:xE}{d:Drawn}{t:Nat}{os:OsState}{nm q:Str}{C N:Addr}{bs bm lh:Δ}{gv:Bool}{sn:Θ}{sub:Δ}{ab:Bool}{col:xS}{dd:Ω}{k0 k1 k2 k3 k5:Ψ}{B eC fm:String}
abbrev Nq(h:Heap)(C:Addr)(us:Δ):Heap:=(h.push { cls:=.type "tuple",data:=.seq us.toArray }).push { cls:=.ref C,data:=.fields #[.ref h.objs.size,.none,.none,.none,.bool false,.none] }
def Gp(b:Addr)(o:Obj)(e:h.get? b=some o):(Nq h C us).get? b=some o:=aH _ (aH _ e)
def Mz(F:ExcBaseFacts B eC fm lh)(T:OwnTail h lh bm){oI:Obj}{Q:Fin->Shared->Prop}(hC:h.get? C=some (excClassObj nm q C N bs bm gv sn sub ab col dd k0 k1 k2 k3 k5 eC))(hn:h.Ns N mN)(hi:mN "__init__"=some (.ref fI))(hf:h.get? fI=some oI)(hc:oI.cls=.type "function")(hl:us.length<=sizeLine)
 (hq:wpAny (model prog w) A (call (.ref fI) (.ref (h.objs.size+1)::us)) (λr s'=>r=.none/\Q (.done (.ret (.ref (h.objs.size+1)))) s') E ⟨Nq h C us,g,d,t,os⟩):wpAny (model prog w) A (Builtin.«type.__call__» ⟨.ref C::us,[]⟩) Q E ⟨h,g,d,t,os⟩:=by
 have K:=Gp (h:=h) (C:=C) (us:=us);have C1:=K _ _ hC;have T1:=T.keeps K;have at_:(Nq h C us).get? (h.objs.size+1)=some { cls:=.ref C,data:=.fields #[.ref h.objs.size,.none,.none,.none,.bool false,.none] }:=by heap_get
 have isC:(Value.ref C::bm).contains (.ref C)=true:=by simp
 repeat (first|with_reducible refine wpAny_loadPart_at hC ?_|with_reducible refine wpAny_madeBy_exc hC ?_|wp_step)
 refine codeAny_call_builtin_code (Code.quiet_builtin _ F.quiet) (wpAny_check_new_subT F T hC (codeAny_exc_new_subT F T hC ?_ hl));show wpAny _ _ _ _ _ _;unfold isInstance
 repeat (first|with_reducible refine wpAny_loadPart_at at_ ?_|(with_reducible refine wpAny_isSubtype_exc C1 ?_;rw[isC])|wp_step)
 show wpAny _ _ (typeLookup (.ref C) _) _ _ _;refine wpAny_typeLookup_tail C1 (hn.keeps K) T1 F.mroIs F.init.lookup ?_;rw[hi];refine wpAny_holding (ZU ?_);unfold bindSpecial;refine ZU (wpAny_typeOf (T:="function") ⟨_,K _ _ hf,hc⟩ ?_);rw[ZY wp];refine ZT (ZU (wpAny_mono hq (λr s' hP=>?_) λ_ _ x=>x));obtain⟨e,z⟩:=hP;subst e
 wp_walk
 exact z
def abg(F:ExcBaseFacts B eC fm lh)(T:OwnTail h lh bm){oI:Obj}{Q:Β}(hC:h.get? C=some (excClassObj nm q C N bs bm gv sn sub ab col dd k0 k1 k2 k3 k5 eC))(hn:h.Ns N mN)(hi:mN "__init__"=some (.ref fI))(hf:h.get? fI=some oI)(hc:oI.cls=.type "function")(hl:us.length<=sizeLine)
 (hq:wpAny (model prog w) (A.under (.builtin "type.__call__" ⟨.ref C::us,[]⟩)) (call (.ref fI) (.ref (h.objs.size+1)::us)) (λr s'=>r=.none/\Q (.ref (h.objs.size+1)) s') E ⟨Nq h C us,g,d,t,os⟩):wpAny (model prog w) A (call (.ref C) us) Q E ⟨h,g,d,t,os⟩:=by
 have a1:=tc_lookup;have a2:=tc_bind (.ref C);have a3:(⟨h,g,d,t,os⟩ : Shared).TypeIs (.ref C) "type":=⟨_,hC,rfl⟩;refine wpAny_call (codeAny_of_tree ?_);show wpAny _ _ (callAny (.ref C) _) _ _ _
 repeat (any_goals (first|assumption|with_reducible refine wpAny_loadPart_at hC ?_|wp_step))
 exact⟨rfl,codeAny_call_builtin_at (Code.quiet_builtin _ (by decide +kernel)) entry_typeCall (wpAny_check_type_call_sub hC (Mz F T hC hn hi hf hc hl hq))⟩
end
def Q5:Δ->Bool
 |.ref _::l=>Q5 l
 |l=>l==bmV
def Xx{self:Value}{l:Δ}(h:Q5 l=true):refuseLoop self "__setattr__" l=pure ():=by
 induction l with
 |nil=>cases h
 |cons x l ih =>
  cases x with
  |ref C=>rw[refuseLoop_ref];exact ih h
  |type n =>
   have e:Value.type n::l=bmV:=beq_iff_eq.mp h;rw[e];exact PySem.F.store_ValueError.passes self
  |_=>exact absurd (beq_iff_eq.mp h) (by intro z;cases z)
structure ZJ(K:Frag)(C:Addr):Prop where
 cd:∃cd,clsIn K C=some cd/\cd.hasDict=true/\Q5 cd.mro=true
 sa:findIn K (.ref C) "__setattr__"=some (some (.builtin "object.__setattr__"))
 mo:mroIn K C (.type "object")=some true
variable{x HE:Addr}{f:Str}{v:Value}{ox:Obj}
def afd(X:K.In s.heap)(S:ZJ K C)(n:cg K C f)(hx:s.heap.get? x=some ox)(hc:ox.cls=.ref C)(hd:ox.dict=none)(hv:ox.data=.fields vs)
 (hq:∀h' t',h'.Ns1 s.heap.objs.size (λy=>if y=f then some v else none)->h'.get? x=some { ox with dict:=some s.heap.objs.size }->(∀b,b≠x->b≠s.heap.objs.size->h'.get? b=s.heap.get? b)->Q () ⟨h',s.gens,s.drawn,t',s.os⟩):wpAny (model prog w) A (setAttr (.ref x) f v) Q E s:=by
 obtain⟨cd,aI,hdi,hm⟩:=S.cd;have J:PySem.W.InstAt s.heap x ox C none:=⟨hx,hc,by unfold notCls;rw[hv],by rw[hd];trivial⟩;have SF:=PySem.F.store_object;refine set_plain X J S.sa ?_;have sub:PySem.W.Looks (model prog w) s.heap (isInstance (.ref x) (.type "object")) true:=J.type.andThen (looks_mroIn X S.mo);have lm:PySem.W.Looks (model prog w) s.heap (mroOf (.ref C)) cd.mro:=(looks_clsIn X aI).andThen .now;generalize g7:({ s with toks:=s.toks+1 } : Shared)=s1;have e1:s1.heap=s.heap:=by rw[<- g7]
 rw[<- e1]at sub lm X J;refine codeAny_call_builtin SF.slot.plain SF.entry (@PySem.W.check_slot (model prog w) _ _ s1 "object.__setattr__" "object" "__setattr__" (.ref x) [.str f s.toks,v] [] _ SF.kind SF.split sub (SF.args (.ref x) (.str f s.toks) v) ?_);rw[PySem.W.osa_eq,refuse_eq];refine ZU (ZU (J.type.here (ZU (lm.here ?_))));rw[Xx hm];refine ZT (ZU (J.type.here (ZU ((looks_findIn X n).here (ZU (ZT ?_))))));have mP:s1.heap.get? x=some ox:=by rwa[e1]
 obtain⟨oc,odi,oda,dy⟩:=ox;dsimp only at hc hd hv;subst hc hd hv;refine ZU (ZT (ZU (ZU (wpAny_loadPart mP (ZU ((looks_clsIn X aI).here ?_))))));rw[hdi,ZZ wr,ZZ (by simp[typeHasDict])];have e0:=g7;obtain⟨hp,gg,dr,tk,os⟩:=s1;dsimp only at mP e1 ⊢;cases e0;have hxs:x≠s.heap.objs.size:=aQ (aK hx);refine ZU (wpAny_alloc' (ZU (wpAny_update' (aH _ hx) (ZT ?_))));generalize hu:(s.heap.push { cls:=.type "dict",data:=.dict #[] }).update x _=hU;have q1:hU.get? s.heap.objs.size=some { cls:=.type "dict",data:=.dict #[] }:=by
  rw[<- hu];exact(Heap.get?_update_ne _ _ _ _ hxs.symm).trans (Heap.get?_push_at rfl rfl)
 have q2:hU.get? x=some { cls:=.ref C,dict:=some s.heap.objs.size,data:=.fields vs,slots:=dy }:=by
  rw[<- hu];exact Heap.get?_update_self _ (aH _ hx) rfl
 have q3:∀b,b≠x->b≠s.heap.objs.size->hU.get? b=s.heap.get? b:=λb n1 n2=>by
  rw[<- hu];exact(Heap.get?_update_ne _ _ _ _ n1).trans (Heap.get?_push_ne _ _ _ n2)
 dsimp only;unfold Builtin.ObjectAttr.storeInDict Builtin.ObjectAttr.newKeyGuard;refine ZU (ZT (ZU (wpAny_nsSet1 (Heap.Ns1.of_empty ⟨_,#[],_,q1,rfl,λ_ z=>absurd z wr,λ_=>rfl⟩) λh' hn hs=>?_)));obtain⟨oD,esD,epD,nN,oz,dS⟩:=hn.count (Within.cons f v Within.nil);refine ZU (wpAny_lookBehind nN (by rw[oz];exact pastItsLine_dict (aL dS (by rw[List.length_cons,List.length_nil,sizeLine_eq];exact Nat.le_add_left _ _))) ?_)
 wp_walk
 exact hq h' _ hn ((hs.2 x hxs).trans q2) λb n1 n2=>(hs.2 b n2).trans (q3 b n1 n2)
structure Lq(K:Frag)(C HE fI:Addr):Prop where
 ex:∃nm qn N bs sn sub ab col dd k0 k1 k2 k3 k5,K.lookup C=some (excClassObj nm qn C N bs (.ref HE::bmV) true sn sub ab col dd k0 k1 k2 k3 k5 "ValueError.__new__")/\nsOkIn K N=true/\nsIn K N "__init__"=some (some (.ref fI))
 he:aiJ K HE
 fn:∃o,K.lookup fI=some o/\o.cls=.type "function"
 kp:keepIn K (.ref C)=true
def afv{N:Addr}{m:Str->Ψ}(X:K.In h)(G:h.Ns N m)(e:nsIn K N n=some (some v)):m n=some v:=by
 obtain⟨o,es,ep,ho,hd,_,hf⟩:=G;rw[<- hf];unfold nsIn at e;split at e
 .rename_i q
  cases(X _ _ q).symm.trans ho;cases hd;unfold nsFind findBy;rw[<- Array.find?_toList];split at e
  .rename_i en he
   cases e;rw[he];rfl
  .split at e<;>cases e
 .cases e
def Lq.obj(q:Lq K C HE fI)(X:K.In h):∃nm qn N bs sn sub ab col dd k0 k1 k2 k3 k5 mN o,h.get? C=some (excClassObj nm qn C N bs (.ref HE::bmV) true sn sub ab col dd k0 k1 k2 k3 k5 "ValueError.__new__") /\
  h.Ns N mN/\mN "__init__"=some (.ref fI)/\h.get? fI=some o/\o.cls=.type "function"/\OwnTail h bmV (.ref HE::bmV):=by
 obtain⟨nm,qn,N,bs,sn,sub,ab,col,dd,k0,k1,k2,k3,k5,l,a,b⟩:=q.ex;obtain⟨o,lo,ho⟩:=q.fn;obtain⟨bm,N',nm',qn',bs',bn,sn',sub',ab',col',p5,k0',k1',k2',k3',k5',mN',hC,hN,hi,T⟩:=aec X q.he;exact⟨nm,qn,N,bs,sn,sub,ab,col,dd,k0,k1,k2,k3,k5,_,o,X _ _ l,.of_isNs (isNs_of_in X a),afv X (.of_isNs (isNs_of_in X a)) b,X _ _ lo,ho,.own hC hN hi .base⟩
abbrev Tr(C t:Addr)(d:Ω):Obj:={ cls:=.ref C,dict:=d,data:=.fields #[.ref t,.none,.none,.none,.bool false,.none] }
def XN(a C:Addr)(d:Ω):HO:=.ext λh=>∃t,h.get? a=some (Tr C t d)
def acr{t:Addr}{d:Ω}(e:h.get? a=some (Tr C t d)):eZ P w H h a (XN a C d):=⟨⟨t,e⟩,⟨_,e⟩,λ_ _ ⟨u,z⟩ k=>⟨u,k _ z⟩⟩
def YG{d:Ω}(e:eZ P w H h a (XN a C d)):∃t,h.get? a=some (Tr C t d):=e.1
def ahj{o:HO}(e:H a=some o):upd H a o=H:=by
 funext b;unfold upd;split
 .rename_i z;rw[z,e]
 .rfl
structure adI(K:Frag)(B:Addr):Prop where
 ga:specialIn K (.ref B) "__getattribute__"=some (some (.builtin "type.__getattribute__"))
 rd:readsIn K B (.type "type")=true
 at_:findCls K (.ref B) (.type "type") "__init__"=some (.val (.builtin "ValueError.__init__"))
section
variable{X:Cx}{B C HE fI:Addr}{x:Str}{p pos ag:Pos}{e:Expr}{es:ze}{t:TA}{aa:Γ}{σ:L2.St}{H:Hp}{s:Shared}
def init_exc{Q:Β}(I:Inv X aa σ H s)(q:Lq X.K C HE fI)(ha:H a=some (XN a C none))(hl:us.length<=sizeLine)
 (h:∀s',Inv X aa σ H s'->Q .none s'):wpAny (model X.prog X.w) A (call (.builtin "ValueError.__init__") (.ref a::us)) Q E s:=by
 obtain⟨nm,qn,N,bs,sn,sub,ab,col,dd,k0,k1,k2,k3,k5,mN,o,hC,hN,hi,hf,oq,T⟩:=q.obj I.kIn;obtain⟨u,hx⟩:=YG (I.hok a _ ha);have F:=PySem.F.excBase_ValueError;obtain⟨hp,gs,dr,tk,os⟩:=s;refine wpAny_call (codeAny_call_builtin F.init.plain F.initEntry (wpAny_check_init_subT F T hC hx rfl ?_))
 wp_walk
 refine h _ ?_;have e1:(hp.push { cls:=.type "tuple",data:=.seq us.toArray }).get? a=some (Tr C u none):=aH _ hx;have J:=I.write (x:=a) (e:=a) (o:=XN a C none) (t':=tk) (h':=(hp.push { cls:=.type "tuple",data:=.seq us.toArray }).update a (Obj.mapFields λx=>x.setIfInBounds 0 (Value.ref hp.objs.size))) (by rw[ha];trivial) (.inl rfl)
  (λb v n z=>(Heap.get?_update_other _ _ (Ne.symm n)).trans (aH _ z)) ⟨_,Heap.get?_update_self _ e1 rfl⟩ (acr (t:=hp.objs.size) (Heap.get?_update_self _ e1 rfl))
 rwa[ahj ha]at J
def aiC(C:Addr)(t:TA):TE:=λσ H Q=>t σ H λvs H1=>∃a ws,vs=.ref a::ws/\H1 a=some (XN a C none)/\ws.length<=sizeLine/\Q .non H1
def TY(c:adI X.K B)(q:Lq X.K C HE fI)(hg:Gl X x)(hm:X.mg x=some (.ref B))(ha:PA X (e::es) t)(bo:qk x:=by decide)
 (bu:qo X e es:=by rfl)(aE:qh X pos es:=by rfl)
 (ht:eval (.Call (.Attribute (.Name x p) "__init__" ag) (e::es) [] pos) X.env=(do
   let ov <- eval (.Name x p) X.env
   standAt ag.atName
   let(f,first) <- holding [ov] (getMethod ov "__init__" pl)
   callWith pos f first (backTo pos (starEach (e::es) X.env)) (backToKw pos (keywordEach [] X.env))):=by rfl) :
  PE X (.Call (.Attribute (.Name x p) "__init__" ag) (e::es) [] pos) (aiC C t):=by
 intro aa s σ H Q I h;refine methodCall_KW (pl:=pl) (rH I hg hm (method_cls I.kIn c.ga (cls_value I.kIn c.rd c.at_ wp ?_)) bo) ht;show wpAny _ _ (callWith pos (.builtin "ValueError.__init__") [] (backTo pos (starEach (e::es) X.env)) []) _ _ _;have h2:=ha pos aa _ σ H _ (I.tok (s.toks+1)) h;rw[bu]at h2 ⊢;refine PySem.W.callWith_of (P:=λ_=>True) (by show((false || (backTo pos (starEach es X.env)).any (·.1)) || false)=false;rw[aE];rfl) (λ_ _=>⟨.machine,.inr (.inl rfl),.now⟩) (Calls.evalArgs_plain (thn h2 λus s2 ⟨vs,H2,I2,r,a,ws,e1,e2,e3,e4⟩=>⟨trivial,?_⟩));subst e1;cases r with
 |cons r1 r2 =>
  cases r1;exact init_exc I2 q e2 (by rwa[<- r2.length]) λs' J=>⟨.non,H2,J,rfl,e4⟩
end
variable{v:V}
def aal(I:Inv X aa σ H s)(e:H a=some (XN a C none))(c:ZJ X.K C)(n:cg X.K C f)(r:z4 v u)
 (h:∀d s',H d=none->d≠a->Inv X aa σ (upd (upd H a (XN a C (some d))) d (.xd [(f,v)])) s'->Q () s'):wpAny (model X.prog X.w) A (setAttr (.ref a) f u) Q E s:=by
 obtain⟨t,ha⟩:=YG (I.hok a _ e);have nd:H s.heap.objs.size=none:=I.hok.fresh (aG _);have na:s.heap.objs.size≠a:=(aQ (aK ha)).symm;refine afd I.kIn c n ha rfl rfl rfl λh' t' hn hx ho=>h s.heap.objs.size _ nd na ?_;have J:=I.write (x:=a) (e:=a) (o:=XN a C (some s.heap.objs.size)) (t':=t') (h':=h') (by rw[e];trivial) (.inl rfl) (λb w z q=>(ho b z (aQ (aK q))).trans q) ⟨_,hx⟩ (acr hx);refine J.track ((bU na).trans nd) (Heap.get?_none_of_le I.sz) (VV I.lt) (λx c q z=>?_) (λp q z=>?_) ⟨_,hn,λg=>?_⟩
 .obtain⟨w,o,q',_⟩:=I.cell x c q;rw[z]at q';exact X2 _ (aK q')
 .have q':=(I.pin p q).1;rw[z]at q';exact X2 _ (aK q')
 .by_cases z:g=f
  .subst z;simp[List.lookup];exact r
  .have:(g==f)=false:=by simp[z]
   simp[List.lookup,this,z]
   trivial
def ak9(K:Frag)(ta tv:TE)(f:Str):TS:=λD σ H=>tv σ H λy H1=>ta σ H1 λx H2=>∃a C,x=.ref a/\H2 a=some (XN a C none)/\ZJ K C/\cg K C f/\∀d,H2 d=none->d≠a->D.nx σ (upd (upd H2 a (XN a C (some d))) d (.xd [(f,y)]))
def YD{o:Expr}(ha:PE X o ta)(hv:PE X ar tv)(hs:swapsWith ar (some (.Attribute o f ay)) pos.line X.env=pure false):PS X (.Assign [.Attribute o f ay] ar pos) (ak9 X.K ta tv f):=by
 intro aa s σ H D I h;refine plainObj_wpAny_Assign_Attribute (thn (hv aa s σ H _ I h) λu s1 ⟨y,H1,I1,ry,q⟩=>thn (ha aa s1 σ H1 _ I1 q) λov s2 hP=>?_) hs;obtain⟨x,H2,I2,rx,a,C,ex,ea,c,n,q2⟩:=hP;subst ex;obtain rfl:ov=Value.ref a:=rx;exact aal I2 ea c n ry λd s3 h1 h2 I3=>⟨σ,_,I3,q2 d h1 h2⟩
def Inv.madeE(I:Inv X aa σ H s):Inv X aa σ (upd H (s.heap.objs.size+1) (XN (s.heap.objs.size+1) C none)) { s with heap:=Nq s.heap C us } :=
 I.laid (a:=s.heap.objs.size+1) (o:=XN (s.heap.objs.size+1) C none) (h':=Nq s.heap C us) (t':=s.toks) Gp (Xs _) (acr (t:=s.heap.objs.size) (by heap_get))
def aag{vs:Ε}{Q:Addr->Hp->Prop}(q:Lq X.K C HE fI)(F:d9 X.prog X.w X.K X.mg X.base CX0 k fI fd ps sp)(hr:dH (k+1) X.A)(hb:Binds X.K fd ps [])
 (I:Inv X aa σ H s)(r:z5 vs us)(hl:us.length<=sizeLine)(h:∀x,H x=none->sp (.ref x::vs) (upd H x (XN x C none)) (λv H2=>v=.non/\Q x H2) E0) :
  wpAny (model X.prog X.w) X.A (call (.ref C) us) (λu s'=>∃a H',u=.ref a/\X.s₀.heap.objs.size<=a/\Inv X aa σ H' s'/\Q a H') X.xe s:=by
 obtain⟨nm,qn,N,bs,sn,sub,ab,col,dd,k0,k1,k2,k3,k5,mN,o,hC,hN,hi,hf,oq,T⟩:=q.obj I.kIn;have hq:=h (s.heap.objs.size+1) (I.hok.fresh (Xs _));have I2:=I.madeE (C:=C) (us:=us);have r2:z5 (V.ref (s.heap.objs.size+1)::vs) (Value.ref (s.heap.objs.size+1)::us):=.cons rfl r;have hl2:(Value.ref (s.heap.objs.size+1)::us++[]).length=ps.length:=by
  rw[List.append_nil,<- r2.length];exact F.len _ _ _ _ hq
 have eP:=hb _ (Value.ref (s.heap.objs.size+1)::us) I2.kIn hl2;rw[List.append_nil]at eP;have sz:=I.sz;obtain⟨hp,g,d,t,os⟩:=s;refine abg PySem.F.excBase_ValueError T hC hN hi hf oq hl (wpAny_call (codeAny_mono (F.run _ X.stack _ _ ⟨Value.ref (hp.objs.size+1)::us,[]⟩ _ _ _ E0 (hr.make C us []) (I2.env0.make C us []) eP r2 hq) λr s' df=>?_));cases r with
 |error e=>exact Jg aa σ _ _ e s' I2 df
 |ok fl =>
  cases fl with
  |ret u =>
   obtain⟨v,H',I3,rv,ev,q3⟩:=I2.after df;subst ev;exact⟨rv,hp.objs.size+1,H',rfl,Nat.le_succ_of_le sz,I3,q3⟩
  |next=>exact False.elim df
  |brk=>exact False.elim df
  |cont=>exact False.elim df
def out(H:Hp)(a:Addr):Hp:=λb=>if b=a then none else H b
def Tw : out H a a=none:=by unfold out;rw[ZY rfl]
def yp(n:b≠a):out H a b=H b:=by unfold out;rw[ZZ n]
def Us{o:HO}(e:out H a b=some o):b≠a/\H b=some o:=by
 by_cases z:b=a
 .subst z;rw[Tw]at e;cases e
 .exact⟨z,by rw[yp z]at e;exact e⟩
section
variable{X:Cx}{aa:Γ}{σ:L2.St}{H:Hp}{s:Shared}{a C:Addr}{B h':Heap}{d:Ω}
def Inv.flyMade(I:Inv X aa σ H s)(hx:X.ex=[])(e:H a=some (XN a C d))(sz:X.s₀.heap.objs.size<=a)(hB:B=hideAll (s.heap.hide a) (frs X.stack))(fl:vM B X.outer a (.ref C) d .none h')(up:s.heap.UpToSlots h') :
  Fly X.prog X.w X.outer X.H₀ X.s₀ a (.ref C) (out H a) { s with heap:=h' } B d:=by
 have kU:∀b o,b≠a->s.heap.get? b=some o->b∉frs X.stack->B.get? b=some o:=λb o n q m=>by rw[hB];exact hideAll_get _ ((Heap.hide_ne _ n).trans q) m
 have ni:∀b u,H b=some u->b∉frs X.stack:=λb u q z=>by rw[I.stkFree b z]at q;cases q
 have trk:∀b u o,b≠a->H b=some u->s.heap.get? b=some o->B.get? b=some o:=λb u o n q r=>kU b o n r (ni b u q);have na:∀b,H b=none->b≠a:=λb q z=>by rw[z,e]at q;cases q
 have nf:∀b∈frs X.stack,∀o,s.heap.get? b=some o->∀vs,o.data≠.fields vs:=λb hb o q=>by
  obtain⟨_,o',e',z⟩:=I.stack.mem hb;rw[q]at e';cases e';exact z
 have hok:HOk X.prog X.w (out H a) h':=λb u q=>by
  obtain⟨n,q⟩:=Us q;refine(I.hok b u q).stay (λc v hc r=>?_) (λc r=>?_) λc xs r=>?_
  .rcases hc with z|z
   .subst z;exact fl.1 c v (trk c u v n q r)
   .exact fl.1 c v (trk c _ v (Js z e (by intro z;cases z)) z r)
  .rw[yp (Js r e (by intro z;cases z))];exact r
  .rw[yp (Js r e (by intro z;cases z))];exact r
 have un:Un (frs X.stack) [a] H (out H a) s.heap h':=by
  refine⟨λb o q n hb _=>fl.1 b o (kU b o (na b n) q hb),λb o q n hb _=>up b o q (nf b hb o q),λb o _ n _=>by rw[yp (na b n)];exact n,λb o q hb=>?_,λb xs q=>?_,λb o u q=>?_,λb ps q=>⟨#[],?_⟩⟩
  .by_cases m:b∈frs X.stack
   .obtain⟨sl,r⟩:=up b o q (nf b m o q);exact⟨_,r⟩
   .exact⟨o,fl.1 b o (kU b o (by simpa using hb) q m)⟩
  .rw[yp (Js q e (by intro z;cases z))];exact q
  .rw[yp (Js q e (by intro z;cases z))];exact q
  .rw[yp (Js q e (by intro z;cases z)),q];simp
 have J:Inv X aa σ (out H a) { s with heap:=h' }:=I.call' (s':={ s with heap:=h' }) (ch:=[a]) rfl un hok I.bare λb hb=>by
  obtain rfl:b=a:=by simpa using hb
  exact⟨.inr sz,(λz=>by have:=I.free;rw[<- z,e]at this;cases this),(λx c q z=>by have:=I.freeC x c q;rw[z,e]at this;cases this),(λp hp z=>by have:=(I.pin p hp).2.1;rw[z,e]at this;cases this)⟩
 have lta:∀b o,X.s₀.heap.get? b=some o->b≠a:=λb o q z=>X2 a (aR (z ▸ aK q) sz);refine⟨J.os,J.bare,Heap.get?_none_of_le sz,by have:=J.base;rw[hx]at this;exact this,J.hok,λb hb=>?_,fl,λb o q hb hc=>?_⟩
 .obtain⟨_,o,ho,_⟩:=I.ok.funs.mem hb;exact J.base.free b o ho (I.ok.frf b hb) λz=>I.ok.exfs b z hb
 .have fin:∀v,B.get? b=some v->B.get? b=some o:=λv y=>by
   have e2:=fl.1 b v y;rw[show({ s with heap:=h' } : Shared).heap.get? b=h'.get? b from rfl,e2]at q;cases q;exact y
  rcases hc with⟨u,r⟩|⟨u,r⟩
  .obtain⟨⟨v,z⟩,n⟩:=I.old hx r;exact fin v (kU b v (lta b u r) z (I.nostk n hb))
  .obtain⟨n,r⟩:=Us r;obtain⟨o',e'⟩:=(I.hok b u r).there;exact fin o' (trk b u o' n r e')
end
def Xh(X:Cx)(Ex:Value->Ω->L2.St->Hp->Prop):Prop :=
 ∀aa σ H s a C d,Inv X aa σ H s->H a=some (XN a C d)->X.s₀.heap.objs.size<=a->Ex (.ref C) d σ (out H a)->X.xe (.ref a) s
variable{f:Addr}{E:XK}
def Zm:Xh (Dg (CXO P w) P w K mg base N ah scope f cd A outer s H E) (λC d _ H'=>E C d H'):=by
 intro aa σ H1 s1 a C d I e sz q;show wpAny _ _ (leaving _ (.ref a)) _ _ _;have kz:∀env∈(envOfC ah scope s.heap.objs.size f cd::outer),∀b,env.frame=some b->b∈frs (envOfC ah scope s.heap.objs.size f cd::outer):=λenv he b hb=>List.mem_filterMap.mpr ⟨env,he,hb⟩;obtain⟨t,ha⟩:=YG (I.hok a _ e);have fr:(s1.heap.hide a).FunFrames base (envOfC ah scope s.heap.objs.size f cd::outer):=PySem.W.funFrames_hideAll (as:=[a]) I.stack λenv he b hb z=>by
  obtain rfl:b=a:=by simpa using hb
  have:=I.stkFree b (kz env he b z);rw[e]at this;cases this
 refine aai (base:=hideAll (s1.heap.hide a) (frs (envOfC ah scope s.heap.objs.size f cd::outer))) (h0:=s1.heap.hide a) (outer:=outer) I.ok.frames rfl (λb o q=>of_hideAll _ q) (PySem.W.funFrames_hide fr kz) (λb o q=>Heap.of_hide q) (Heap.hide_self _ _) ha rfl rfl λh' fl up=>?_;exact⟨a,.ref C,d,out H1 a,_,rfl,I.flyMade rfl e sz rfl fl up,q⟩
section
variable{prog:Program}{w:World}{A:Around}{E:Β}{s:Shared}{env:Env}{nm qn:Str}{C N:Addr}{bs bm:Δ}{hd:Bool}{sn:Θ}{sub:Δ}{ab:Bool}{col:xS}{dd:Ω}{k0 k1 k2 k3 k5:Ψ}
def Zt{x:Sem Value}{Q:Flow->Shared->Prop}(hb:bm.contains (.type "BaseException")=true)(hh:A.handled=none)
 (h:wpAny (model prog w) A x (λv s1=>∃a t d,v=.ref a/\s1.heap.get? C=some (excClassObj nm qn C N bs bm hd sn sub ab col dd k0 k1 k2 k3 k5 "ValueError.__new__")/\s1.heap.get? a=some (Tr C t d)/\E (.ref a) s1) E s):wpAny (model prog w) A (raiseStmt env (some x) none) Q E s:=by
 have hB:(Value.ref C::bm).contains (.type "BaseException")=true:=by rw[List.contains_cons,hb,Bool.or_true]
 unfold raiseStmt;refine ZU (wpAny_mono h (λv s1 z=>?_) λ_ _ z=>z);obtain⟨a,t,d,rfl,hC,ha,hE⟩:=z;obtain⟨hp,gs,dr,tk,os⟩:=s1
 repeat (first|with_reducible refine wpAny_loadPart_at ha ?_|with_reducible refine wpAny_loadPart_at hC ?_|(with_reducible refine wpAny_isSubtype_exc hC ?_;rw[hB])|wp_step)
 exact wpAny_raiseNew_none hh hE
end
section
variable{X:Cx}{x:Str}{np af pos:Pos}{e₀:Expr}{rest:ze}{ta:TA}{C HE fI:Addr}{Ex:Value->Ω->L2.St->Hp->Prop}{k:Nat}{ps:Θ}{sp:Sp}
def aeO(C:Addr)(sp:Sp)(Ex:Value->Ω->L2.St->Hp->Prop)(ta:TA):TS:=λ_ σ H=>ta σ H λvs H1=>vs.length<=sizeLine/\∀a,H1 a=none->sp (.ref a::vs) (upd H1 a (XN a C none)) (λv H2=>v=.non/\∃d,H2 a=some (XN a C d)/\Ex (.ref C) d σ (out H2 a)) E0
def aau(hc:X.calm=true)(hg:Gl X x)(hm:X.mg x=some (.ref C))(q:Lq X.K C HE fI)(G:zd X CX0 k fI ps sp)(hr:dH (k+1) X.A)(hx:Xh X Ex)(ha:PA X (e₀::rest) ta)(bo:qk x:=by decide)
 (he:qo X e₀ rest:=by rfl)(aE:qh X af rest:=by rfl) :
  PS X (.Raise (some (.Call (.Name x np) (e₀::rest) [] af)) none pos) (aeO C sp Ex ta):=by
 obtain⟨fd,F,hb⟩:=G;intro aa s σ H D I h;obtain⟨nm,qn,N,bs,sn,sub,ab,col,dd,k0,k1,k2,k3,k5,mN,o,hC,hN,hi,hf,oq,T⟩:=q.obj I.ok.mod.kin;rw[arm_exec_Raise];refine ZU (wpAny_standAt (Zt (C:=C) (nm:=nm) (qn:=qn) (N:=N) (bs:=bs) (bm:=.ref HE::bmV) (hd:=true) (sn:=sn) (sub:=sub) (ab:=ab) (col:=col) (dd:=dd) (k0:=k0) (k1:=k1) (k2:=k2) (k3:=k3) (k5:=k5) (T.hasType wp) (I.ok.hd hc) ?_));refine ZU (thn (Q:=λu s1=>∃a H' d,u=.ref a/\X.s₀.heap.objs.size<=a/\Inv X aa σ H' s1/\H' a=some (XN a C d)/\Ex (.ref C) d σ (out H' a)) ?_ λu s1 ⟨a,H',d,e1,e2,I1,e3,e4⟩=>ZU (wpAny_standAt (ZT ?_)))
 .refine wpAny_Call_Name_kw (rH I hg hm ?_ bo);refine callWith_K (h₀:=X.base) I.ok.mod.kin q.kp (thn (ha af aa s σ H _ I h) λus s1 ⟨vs,H1,I1,r,hl,q1⟩=>⟨I1.kIn,?_⟩) he aE;exact thn (aag (Q:=λa H2=>∃d,H2 a=some (XN a C d)/\Ex (.ref C) d σ (out H2 a)) q F hr hb I1 r (by show us.length<=_;rwa[<- r.length]) q1) λu s2 hP=>by obtain⟨a,H2,e1,e2,I2,d,e3,e4⟩:=hP;exact⟨a,H2,d,e1,e2,I2,e3,e4⟩
 .obtain⟨t,ht⟩:=YG (I1.hok a _ e3);exact⟨a,t,d,e1,I1.bk _ _ hC,ht,hx aa σ H' s1 a C d I1 e3 e2 e4⟩
end
variable{f:Str}{od:Option Obj}{E:Β}{t:Nat}{d:Drawn}
def Wj{fl b:Bool}{Q:Β}(X:K.In h)(T:Ej K C)(J:PySem.W.InstAt h a o C od)(hx:h.get? a=some o)(hc:o.cls=.ref C)(hf:PySem.W.findObj K C od f=some (.value u))(hh:handedIn u=true)(hq:Q u ⟨h,g,d,t,os⟩) :
  wpAny (model prog w) A (getAttrBy (.ref a) (.str f tk) fl b) Q E ⟨h,g,d,t,os⟩:=by
 have f3:=F.excAttr_ValueError.ga.bind (.ref a);have n2:(Value.builtin "BaseException.__getattribute__"== Value.builtin "object.__getattribute__")=false:=by decide +kernel
 have n1:(onTheHeap (Value.ref C)&&Value.builtin "BaseException.__getattribute__"== Value.builtin "object.__getattribute__")=false:=by rw[n2];exact Bool.and_false _
 have LT:=jZ (M:=model prog w) hx hc;have LG:=looks_findIn (M:=model prog w) X T.ga;have LN:=looks_findIn (M:=model prog w) X T.gn;have LF:=PySem.W.looks_find (M:=model prog w) X J hf
 repeat (any_goals (first|assumption|with_reducible refine LT.at ?_|with_reducible refine LG.at ?_|with_reducible refine LN.at ?_|(with_reducible refine wpAny_loadPart_at hx ?_;rw[hc])|wp_step))
 rw[ZZ (show ¬(b&&onTheHeap (Value.builtin "BaseException.__getattribute__"))=true from by rw[show onTheHeap (Value.builtin "BaseException.__getattribute__")=false from rfl,Bool.and_false];exact bh)]
 repeat (any_goals (first|assumption|wp_step))
 refine codeAny_call_builtin F.excAttr_ValueError.ga.plain F.entry_bexc_ga (Ci X T hx hc ?_)
 repeat (any_goals (first|assumption|with_reducible refine LT.at ?_|with_reducible refine LF.at ?_|wp_step))
 show wpAny _ _ (handedOut u) _ _ _;rw[PySem.W.handedOut_of hh];exact ZT hq
variable{d:Addr}{fs:xt}
def aaA{b:Bool}{Q:Β}(I:Inv X aa σ H s)(e:H a=some (XO a C (some d)))(ed:H d=some (.xd fs))(c:Ej X.K C)(hh:hasDictIn X.K C=true)(n:cg X.K C f)(l:fs.lookup f=some v)
 (h:∀u s',Inv X aa σ H s'->z4 v u->Q u s'):wpAny (model X.prog X.w) A (getAttr (.ref a) f b) Q E s:=by
 obtain⟨ox,hx,hc,hd,vs,hv⟩:=(I.hok a _ e).1;obtain⟨mA,hn,r⟩:=I.hok d _ ed;obtain⟨od,ho,hl⟩:=Np hn;obtain⟨u,hu,ru⟩:=yt.some_of (v:=v) (o:=mA f) (by rw[<- l];exact r f);have J:PySem.W.InstAt s.heap a ox C (some od):=⟨hx,hc,by unfold notCls;rw[hv],by rwa[hd]⟩;have I2:=I.tok (s.toks+1);have kI:=I.kIn;obtain⟨hp,g,dr,t,os⟩:=s;unfold getAttr
 repeat (first|exact Wj kI c J hx hc (findObj_own hh n rfl (by rw[hl,hu])) (NZ ru) (h u _ I2 ru)|wp_step)
def aga(K:Frag)(ta:TE)(f:Str):TE:=λσ H Q=>ta σ H λx H1=>∃a C d fs v,x=.ref a/\H1 a=some (XO a C (some d))/\H1 d=some (.xd fs)/\Ej K C/\hasDictIn K C=true/\cg K C f/\fs.lookup f=some v/\Q v H1
def afN(he:PE X e ta)(hb:qB X e f):PE X (.Attribute e f pos) (aga X.K ta f):=by
 intro aa s σ H Q I h;refine Yl hb (thn (he aa s σ H _ I h) λu s1 hP=>?_);obtain⟨x,H1,I1,rx,a,C,d,fs,v,ex,ea,ed,c,hd,n,l,q⟩:=hP;subst ex;obtain rfl:u=Value.ref a:=rx;exact aaA I1 ea ed c hd n l λu' s2 I2 ru=>⟨v,H1,I2,ru,q⟩
def fsc{P:Θ}{sc:Scope}(h1:sc.kind=.function:=by rfl)(h2:sc.isCoroutine=false:=by rfl)(h3:sc.isGenerator=false:=by rfl)(h4:N.Nodup/\(∀x∈P,sc.names.lookup x=some .local\/sc.names.lookup x=some .cell)/\∀y∈sc.names,y.2≠.free:=by decide +kernel)(h5:N.take P.length=P:=by rfl):bK N P sc:=⟨h1,h2,h3,h4.1,h5,h4.2.1,h4.2.2⟩
abbrev CK0(sc scope:Scope)(N N' xs:Θ):Prop:=Nv xs N=N'/\(∀y∈scope.names,y.2=.local->scope.names.lookup y.1=some .local)/\(∀y∈scope.names,y.2=.free->sc.names.lookup y.1=some .cell\/sc.names.lookup y.1=some .free) /\
 (∀y∈N,y∉xs->(scope.names.map λ(n,k)=>if(k==NameKind.free&&sc.kind == .function&&sc.names.lookup n==some .cell)then(n,NameKind.cell)else(n,k)).lookup y≠some .local)/\∀y∈N,y∈xs->(scope.names.map λ(n,k)=>if(k==NameKind.free&&sc.kind == .function&&sc.names.lookup n==some .cell)then(n,NameKind.cell)else(n,k)).lookup (hid y)=none
abbrev CK(sc scope:Scope)(N N' xs:Θ):Prop:=(∀y∈scope.names,y.2≠.cell)/\CK0 sc scope N N' xs
def aaU(sc:Scope)(N N' xs:Θ)(hi:PI X tg iter wi)(hg:∀{C s₀ H₀ ex pn},PG (X.compG N' scope xs C s₀ H₀ ex pn) tg gt)(ht:∀{C s₀ H₀ ex pn},PTs (X.compG N' scope xs C s₀ H₀ ex pn) az tc)(he:∀{C s₀ H₀ ex pn},PE (X.compG N' scope xs C s₀ H₀ ex pn) a8 te)
 (b9:X.env.scope=sc:=by rfl)(cc:X.N=N:=by rfl)(hc:X.calm=true:=by rfl)(hk:scope.kind=.function:=by rfl)(h:CK sc scope N N' xs:=by decide +kernel)(hs:qV X iter:=by intro _;rfl):PE X (.ListComp a8 [⟨tg,iter,az,0⟩] scope pos) (sS wi xs.length (tMG gt) (tMT tc) (tM te)) :=
 by
 subst b9 cc;exact Um (al9 hk h.1) hc h.2.1 hk h.2.2.1 h.2.2.2.1 h.2.2.2.2.1 h.2.2.2.2.2 hi (λ_ _ _ _ _=>hg.mono) (λ_ _ _ _ _=>ht.mono) (λ_ _ _ _ _=>he.mono) hs
def akb{i j:Int}{d:Ω}{n:Nat}{sl:Array (Ψ)}{t u:Tok}(l:K.lookup a=some ⟨.type "tuple",d,.seq #[.int i t,.int j u] n,sl⟩):∀H,SqT K H a [.int i,.int j]:=λH=>.inr ⟨_,_,_,l,rfl,rfl,(by show 2<=sizeLine;decide),.cons ⟨_,rfl⟩ (.cons ⟨_,rfl⟩ .nil)⟩
def apD{x:Str}{i:Int}{t:Tok}(X:K.In h)(G:h.Ns mainGlobals mg)(l:nsIn K mainGlobals x=some (some (.int i t))):∃u,mg x=some u/\z4 (.int i) u:=⟨_,mg_of X G l,_,rfl⟩
def Lst:Nat->(Δ->Prop)->Prop
 |0,P=>P []
 |n+1,P=>∀a,Lst n λl=>P (a::l)
theorem Q9:∀(n:Nat){P:Δ->Prop},Lst n P->∀us:Δ,us.length=n->P us
 |0,_,h,[],_=>h
 |n+1,_,h,a::l,e=>Q9 n (h a) l (Nat.succ.inj e)
section
variable{K:Frag}{h:Heap}{mg:Str->Ψ}{x m ah:Str}{v:Value}{C f:Addr}{st:Stmt}{ps:Θ}{oc:Value}{od an:Ω}{dy:Array (Ψ)}{kV bz pm ai ct:Value}{i j:Int}{d:Ω}{n:Nat}{sl:Array (Ψ)}{t u:Tok}
def q_c(X:K.In h:=by assumption)(G:h.Ns mainGlobals mg:=by assumption)(e:nsIn K mainGlobals x=some (some v):=by k_is):mg x=some v:=mg_of X G e
def q_z(X:K.In h:=by assumption)(G:h.Ns mainGlobals mg:=by assumption)(e:nsIn K mainGlobals x=some none:=by k_is):mg x=none:=PySem.W.mg_none_of X G e
def q_n(e:findIn K (.ref C) x=some none:=by k_is):cg K C x:=e
def q_m(a:findIn K (.ref C) m=some (some (.ref f)):=by k_is)(b:isFn K (.ref f)=true:=by k_is)(c:keepIn K (.ref f)=true:=by k_is):Meth K C m f:=⟨a,b,c⟩
def q_M(a:makesIn K C=true:=by k_is)(b:findIn K (.ref C) "__init__"=some (some (.ref f)):=by k_is)(c:isFn K (.ref f)=true:=by k_is)(e:keepIn K (.ref C)=true:=by k_is):Mk K C f:=⟨a,b,c,e⟩
def q_4(a:plainGet K C Str.empty=true:=by k_is)(b:hasDictIn K C=true:=by k_is)(c:plainOver K C=true:=by k_is)(e:findIn K (.ref C) "__setattr__"=some (some (.builtin "object.__setattr__")):=by k_is):Cls K C:=⟨a,b,c,e⟩
def q_B(a:specialIn K (.ref C) "__getattribute__"=some (some (.builtin "type.__getattribute__")):=by k_is)(b:readsIn K C (.type "type")=true:=by k_is)(c:findCls K (.ref C) (.type "type") m=some (.val (.ref f)):=by k_is)(e:keepIn K (.ref f)=true:=by k_is):Gj K C m f:=⟨a,b,c,rfl,e⟩
def q_g(X:K.In h:=by assumption)(G:h.Ns mainGlobals mg:=by assumption)(l:nsIn K mainGlobals x=some (some (.int i t)):=by k_is):∃u,mg x=some u/\z4 (.int i) u:=apD X G l
def q_t(l:K.lookup C=some ⟨.type "tuple",d,.seq #[.int i t,.int j u] n,sl⟩:=by k_is):∀H,SqT K H C [.int i,.int j]:=akb l
def q_f(hb:∀(kV bz pm:Value)(an:Ω)(ai ct:Value),Lst ps.length λus=>bindArgs (PySem.W.fnOf x x (jN st) (fJ st) (bG st) .none kV bz pm an ai ct) ⟨us,[]⟩=pure (ps.zip us):=by repeat (first|rfl|intro _))(X:K.In h:=by assumption)(G:h.Ns mainGlobals mg:=by assumption)
 (a:nsIn K mainGlobals x=some (some (.ref f)):=by k_is)(l:K.lookup f=some ⟨oc,od,.func (PySem.W.fnOf x x (jN st) (fJ st) (bG st) .none kV bz pm an ai ct),dy⟩:=by k_is)
 (c:codeIn K ai x=true:=by k_is)(k:keepIn K (.ref f)=true:=by k_is):cL K mg x st ps:=af4 X G a l c k λkV bz pm an ai ct us e=>Q9 _ (hb kV bz pm an ai ct) us e
def q_h(hb:∀(kV bz pm:Value)(an:Ω)(ai ct:Value),Lst ps.length λus=>bindArgs (PySem.W.fnOf x ah (jN st) (fJ st) (bG st) .none kV bz pm an ai ct) ⟨us,[]⟩=pure (ps.zip us):=by repeat (first|rfl|intro _))
 (l:K.lookup f=some ⟨oc,od,.func (PySem.W.fnOf x ah (jN st) (fJ st) (bG st) .none kV bz pm an ai ct),dy⟩:=by k_is)(c:codeIn K ai ah=true:=by k_is)(k:keepIn K (.ref f)=true:=by k_is):vP K x ah st ps f:=ae8 l c k λkV bz pm an ai ct us e=>Q9 _ (hb kV bz pm an ai ct) us e
end
variable{N f:Addr}{nm qn:Str}{bs sub:Δ}{sn:Θ}{ab:Bool}{col:xS}{dd:Ω}{k0 k1 k2 k3 k5:Ψ}{cd:ClassData}{t:TA}
def q_E(he:excIn K HE bmV "ValueError.__new__"=true:=by k_exc)(l:K.lookup C=some (excClassObj nm qn C N bs (.ref HE::bmV) true sn sub ab col dd k0 k1 k2 k3 k5 "ValueError.__new__"):=by k_is)(n1:nsOkIn K N=true:=by kernel_rfl)(n2:nsIn K N "__init__"=some (some (.ref fI)):=by k_is)
 (lf:K.lookup fI=some o:=by k_is)(hf:o.cls=.type "function":=by rfl)(kp:keepIn K (.ref C)=true:=by k_is):Lq K C HE fI:=⟨⟨nm,qn,N,bs,sn,sub,ab,col,dd,k0,k1,k2,k3,k5,l,n1,n2⟩,he,⟨o,lf,hf⟩,kp⟩
def q_S(a:clsIn K C=some cd:=by k_is)(b:cd.hasDict=true:=by rfl)(c:Q5 cd.mro=true:=by rfl)(e:findIn K (.ref C) "__setattr__"=some (some (.builtin "object.__setattr__")):=by k_is)(m:mroIn K C (.type "object")=some true:=by k_is):ZJ K C:=⟨⟨cd,a,b,c⟩,e,m⟩
def q_b(a:specialIn K (.ref C) "__getattribute__"=some (some (.builtin "type.__getattribute__")):=by k_is)(b:readsIn K C (.type "type")=true:=by k_is)(c:findCls K (.ref C) (.type "type") "__init__"=some (.val (.builtin "ValueError.__init__")):=by k_is):adI K C:=⟨a,b,c⟩
def q_5(a:findIn K (.ref C) "__getattribute__"=some (some (.builtin "BaseException.__getattribute__")):=by k_is)(b:findIn K (.ref C) "__getattr__"=some none:=by k_is)(c:findIn K (.ref C) "__class__"=some (some (.builtin "object.__class__")):=by k_is)(e:mroIn K C (.type "object")=some true:=by k_is)(m:mroIn K C (.type "BaseException")=some true:=by k_is):Ej K C:=⟨a,b,c,e,m⟩
def adU(C:Addr)(m:Str)(sp:Sp)(Ex:Value->Ω->L2.St->Hp->Prop)(ta:TE)(t:TA):TE:=λσ H Q=>ta σ H λx H1=>∃a dx fs,x=.ref a/\H1 a=some (.ins C dx fs)/\fs.lookup m=none/\t σ H1 λvs H2=>sp (x::vs) H2 Q λD d H'=>Ex D d σ H'
variable{o:Expr}{m:Str}{Ex:Value->Ω->L2.St->Hp->Prop}{x:V}
def aap(he:PE X o ta)(c:Cls X.K C)(hm:Meth X.K C m f)(G:zd X (CXO X.prog X.w) k f ps sp)(hr:dH k X.A)(hx:aay X Ex)(ha:PA X (e::es) t)
 (bu:qo X e es:=by rfl)(aE:qh X pos es:=by rfl)
 (ht:eval (.Call (.Attribute o m ag) (e::es) [] pos) X.env=(do
   let ov <- eval o X.env
   standAt ag.atName
   let(f,first) <- holding [ov] (getMethod ov m pl)
   callWith pos f first (backTo pos (starEach (e::es) X.env)) (backToKw pos (keywordEach [] X.env))):=by rfl) :
  PE X (.Call (.Attribute o m ag) (e::es) [] pos) (adU C m sp Ex ta t):=by
 obtain⟨fd,F,hb⟩:=G;intro aa s σ H Q I h;refine methodCall_KW (pl:=pl) (thn (he aa s σ H _ I h) λu s1 hP=>?_) ht;obtain⟨x,H1,I1,rx,a,dx,fs,ex,ea,l,q⟩:=hP;subst ex;obtain rfl:u=Value.ref a:=rx;refine Bo I1 ea c hm l ?_;refine callWith_K (first:=[.ref a]) (h₀:=X.base) I1.ok.mod.kin hm.kp (thn (ha pos aa _ σ H1 _ I1 q) λus s2 ⟨vs,H2,I2,r,q2⟩=>⟨I2.kIn,?_⟩) bu aE;exact afS (us:=.ref a::us) (vs:=.ref a::vs) F hr hb .nil hx I2 (.cons rfl r) (by rw[List.append_nil];exact q2)
def Tt{K':Frag}{f:Str}(hK:X.K=K')(he:PE X e ta)(hb:qB X e f):PE X (.Attribute e f pos) (aga K' ta f):=by
 subst hK;exact afN he hb
def uO{K':Frag}(hK:X.K=K'):ig X (.builtin "isinstance") (agx K'):=by
 subst hK;exact aad
def ao6(t:TA):TE:=λσ H Q=>t σ H λxs H1=>xs.length<=sizeLine/\∀p H',z0 H1 H'->H1 p=none->H' p=some (.lst xs)->Q (.ref p) H'
def Rf(h:PA X es t):PE X (.List es pos) (ao6 t):=(XH h.mono).imp λσ H Q h=>⟨_,h,λxs H1 z=>⟨z.1,λp hp=>z.2 p _ (z0.upd hp) hp bW⟩⟩
def alS:R2:=λx y H Q=>∃l b xs zs,x=.ref l/\y=.ref b/\H l=some (.lst xs)/\H b=some (.lst zs)/\xs.length+zs.length<=sizeLine/\∀p H',z0 H H'->H p=none->H' p=some (.lst (xs++zs))->Q (.ref p) H'
def af2:OpR X (binaryOp .Add) alS:=ahD.imp λx y H Q hP=>by obtain⟨l,b,xs,zs,e1,e2,h1,h2,z,q⟩:=hP;exact⟨l,b,xs,zs,e1,e2,h1,h2,z,λp hp=>q p _ (z0.upd hp) hp bW⟩
def aj1:Ε->Hp->VK->Prop:=λxs H Q=>∃p ys,xs=[.ref p]/\H p=some (.lst ys)/\∀l H',z0 H H'->H l=none->H' l=some (.tup ys)->Q (.ref l) H'
def aaG:ig X (.type "tuple") aj1:=Mv.imp λxs H Q hP=>by obtain⟨p,ys,a,b,c⟩:=hP;exact⟨p,ys,a,.inl ⟨.of b,λl hl=>c l _ (z0.upd hl) hl bW⟩⟩
section
variable{X:Cx}{k:Nat}{f C B:Addr}{ps:Θ}{sp:Sp}{x m:Str}{p pos ag:Pos}{e:Expr}{es:ze}{t:TA}
def ahn(C:Addr)(sp:Sp)(t:TA):TE:=λσ H Q=>t σ H λvs H1=>∀x dx,H1 x=none->H1 dx=none->dx≠x->sp (.ref x::vs) (upd (upd H1 dx (.own x)) x (.ins C dx [])) (λv H2=>v=.non/\Q (.ref x) H2) E0
def adP(M:Mk X.K C f)(G:zd X CX0 k f ps sp)(hr:dH (k+1) X.A)(hg:Gl X x)(hm:X.mg x=some (.ref C))(ha:PA X (e::es) t)(bo:qk x:=by decide)
 (he:qo X e es:=by rfl)(aE:qh X pos es:=by rfl):PE X (.Call (.Name x p) (e::es) [] pos) (ahn C sp t):=by
 obtain⟨fd,F,hb⟩:=G;refine(ad0 M F hr hg hm hb .nil Jg ha.mono bo he aE).imp λσ H Q h=>⟨_,h,λvs H1 q x dx h1 h2 h3=>?_⟩;rw[List.append_nil];exact q x dx h1 h2 h3
def acf(c:Gj X.K B m f)(G:zd X CX0 k f ps sp)(hr:dH k X.A)(hg:Gl X x)(hm:X.mg x=some (.ref B))(ha:PA X (e::es) t)(bo:qk x:=by decide)
 (bu:qo X e es:=by rfl)(aE:qh X pos es:=by rfl)
 (ht:eval (.Call (.Attribute (.Name x p) m ag) (e::es) [] pos) X.env=(do
   let ov <- eval (.Name x p) X.env
   standAt ag.atName
   let(f,first) <- holding [ov] (getMethod ov m pl)
   callWith pos f first (backTo pos (starEach (e::es) X.env)) (backToKw pos (keywordEach [] X.env))):=by rfl) :
  PE X (.Call (.Attribute (.Name x p) m ag) (e::es) [] pos) (Wk sp t):=by
 obtain⟨fd,F,hb⟩:=G;exact aeF (pl:=pl) c F hr hg hm hb ha bo bu aE ht
end
inductive T where
 |any|non|bl (b:Bool)|int (i:Int)|str (s:Str)|val (v:V)
 |tup (ts:List T)|lst (ts:List T)|scr (ts:List T)
 |dct (ks:xn) (ts:List T)|ins (C:Addr) (ks:Θ) (ts:List T)|exc (C:Addr) (ks:Θ) (ts:List T)
abbrev zn:=List T
abbrev wq:=List zn
def ad9(F:Hp):Ω->xt->Prop
 |none,l=>l=[]
 |some d,l=>F d=some (.xd l)
mutual
inductive Rep(K:Frag)(F:Hp):V->T->Prop
 |any (v:V):Rep K F v .any
 |non:Rep K F .non .non
 |bl (b:Bool):Rep K F (.bl b) (.bl b)
 |int (i:Int):Rep K F (.int i) (.int i)
 |str (s:Str):Rep K F (.str s) (.str s)
 |val (v:V):Rep K F v (.val v)
 |tup {a:Addr}{xs:Ε}{ts:zn} : SqT K F a xs->bZ K F xs ts->Rep K F (.ref a) (.tup ts)
 |lst {a:Addr}{xs:Ε}{ts:zn} : F a=some (.lst xs)->bZ K F xs ts->Rep K F (.ref a) (.lst ts)
 |scr {a:Addr}{xs:Ε}{ts:zn} : SqL K F a xs->bZ K F xs ts->Rep K F (.ref a) (.scr ts)
 |dct {a:Addr}{ks:xn}{xs:Ε}{ts:zn} : Rd F a (.dK (ks.zip xs))->ks.length=xs.length->bZ K F xs ts->Rep K F (.ref a) (.dct ks ts)
 |ins {a C dx:Addr}{ks:Θ}{xs:Ε}{ts:zn} : F a=some (.ins C dx (ks.zip xs))->F dx=some (.own a)->ks.length=xs.length->bZ K F xs ts->Rep K F (.ref a) (.ins C ks ts)
 |exc {a C:Addr}{d:Ω}{ks:Θ}{xs:Ε}{ts:zn} : F a=some (XO a C d)->ad9 F d (ks.zip xs)->ks.length=xs.length->bZ K F xs ts->Rep K F (.ref a) (.exc C ks ts)
inductive bZ(K:Frag)(F:Hp):Ε->zn->Prop
 |nil:bZ K F [] []
 |cons {x:V}{xs:Ε}{t:T}{ts:zn} : Rep K F x t->bZ K F xs ts->bZ K F (x::xs) (t::ts)
end
variable{ts:zn}{S:Addr->Prop}
section
variable{K:Frag}{F F' H H':Hp}
def z0.rd{u:HO}(S:z0 F F')(h:Rd F a u):Rd F' a u:=h.imp (S _ _) λhP=>by obtain⟨o,e⟩:=hP;exact⟨o,S _ _ e⟩
def ad9.same{d:Ω}{l:xt}(S:z0 F F')(h:ad9 F d l):ad9 F' d l:=by
 cases d with
 |none=>exact h
 |some d=>exact S _ _ h
mutual
theorem Rep.same(S:z0 F F'):∀{x:V}{t:T},Rep K F x t->Rep K F' x t
 |_,_,.any v=>.any v
 |_,_,.non=>.non
 |_,_,.bl b=>.bl b
 |_,_,.int i=>.int i
 |_,_,.str s=>.str s
 |_,_,.val v=>.val v
 |_,_,.tup e h=>.tup (S.tup e) (bZ.same S h)
 |_,_,.lst e h=>.lst (S _ _ e) (bZ.same S h)
 |_,_,.scr e h=>.scr (S.seq e) (bZ.same S h)
 |_,_,.dct e l h=>.dct (S.rd e) l (bZ.same S h)
 |_,_,.ins e d l h=>.ins (S _ _ e) (S _ _ d) l (bZ.same S h)
 |_,_,.exc e d l h=>.exc (S _ _ e) (d.same S) l (bZ.same S h)
theorem bZ.same(S:z0 F F'):∀{xs:Ε}{ts:zn},bZ K F xs ts->bZ K F' xs ts
 |_,_,.nil=>.nil
 |_,_,.cons h t=>.cons (Rep.same S h) (bZ.same S t)
end
def Rep.lstI(h:Rep K F x (.lst ts)):∃a xs,x=.ref a/\F a=some (.lst xs)/\bZ K F xs ts:=by cases h;exact⟨_,_,rfl,by assumption,by assumption⟩
def Rep.tupI(h:Rep K F x (.tup ts)):∃a xs,x=.ref a/\SqT K F a xs/\bZ K F xs ts:=by cases h;exact⟨_,_,rfl,by assumption,by assumption⟩
def Rep.scrI(h:Rep K F x (.scr ts)):∃a xs,x=.ref a/\SqL K F a xs/\bZ K F xs ts:=by cases h;exact⟨_,_,rfl,by assumption,by assumption⟩
def Rep.dctI{ks:xn}(h:Rep K F x (.dct ks ts)):∃a xs,x=.ref a/\Rd F a (.dK (ks.zip xs))/\ks.length=xs.length/\bZ K F xs ts:=by cases h;exact⟨_,_,rfl,by assumption,by assumption,by assumption⟩
def Rep.insI{ks:Θ}(h:Rep K F x (.ins C ks ts)):∃a dx xs,x=.ref a/\F a=some (.ins C dx (ks.zip xs))/\F dx=some (.own a)/\ks.length=xs.length/\bZ K F xs ts:=by cases h;exact⟨_,_,_,rfl,by assumption,by assumption,by assumption,by assumption⟩
theorem bZ.len:∀{xs:Ε}{ts:zn},bZ K F xs ts->xs.length=ts.length
 |_,_,.nil=>rfl
 |_,_,.cons _ t=>ZH (· + 1) (bZ.len t)
theorem bZ.app:∀{xs ys:Ε}{ts us:zn},bZ K F xs ts->bZ K F ys us->bZ K F (xs++ys) (ts++us)
 |_,_,_,_,.nil,h=>h
 |_,_,_,_,.cons a b,h=>.cons a (bZ.app b h)
theorem bZ.at_:∀{xs:Ε}{ts:zn}{i:Nat}{t:T},bZ K F xs ts->ts[i]?=some t->∃x,xs[i]?=some x/\Rep K F x t
 |_,_,_,_,.nil,e=>by cases e
 |_,_,0,_,.cons a _,e=>by cases e;exact⟨_,rfl,a⟩
 |_,_,i+1,_,.cons _ b,e=>by
  obtain⟨x,q,r⟩:=bZ.at_ (i:=i) b (by simpa using e);exact⟨x,by simpa using q,r⟩
theorem bZ.of_at:∀{xs:Ε}{ts:zn},xs.length=ts.length->(∀(i:Nat)x t,xs[i]?=some x->ts[i]?=some t->Rep K F x t)->bZ K F xs ts
 |[],[],_,_=>.nil
 |x::xs,t::ts,l,h=>.cons (h 0 x t rfl rfl) (bZ.of_at (Nat.succ.inj l) λi y u e1 e2=>h (i+1) y u e1 e2)
 |[],_::_,l,_=>by cases l
 |_::_,[],l,_=>by cases l
theorem bZ.set{x:V}{t:T}(r:Rep K F x t):∀{xs:Ε}{ts:zn}(i:Nat),bZ K F xs ts->bZ K F (xs.set i x) (ts.set i t)
 |_,_,_,.nil=>.nil
 |_,_,0,.cons _ h=>.cons r h
 |_,_,i+1,.cons a h=>.cons a (bZ.set r i h)
theorem bZ.take:∀{xs:Ε}{ts:zn}(n:Nat),bZ K F xs ts->bZ K F (xs.take n) (ts.take n)
 |_,_,0,_=>.nil
 |_,_,_+1,.nil=>.nil
 |_,_,n+1,.cons a h=>.cons a (bZ.take n h)
theorem bZ.drop:∀{xs:Ε}{ts:zn}(n:Nat),bZ K F xs ts->bZ K F (xs.drop n) (ts.drop n)
 |_,_,0,h=>h
 |_,_,_+1,.nil=>.nil
 |_,_,n+1,.cons _ h=>bZ.drop n h
def hd(S:Addr->Prop)(H:Hp):Hp:=λb=>open Classical in if S b then none else H b
def o_(h:S b):hd S H b=none:=by unfold hd;rw[ZY h]
def cN(h:¬S b):hd S H b=H b:=by unfold hd;rw[ZZ h]
def cT{o:HO}(e:hd S H b=some o):¬S b/\H b=some o:=by
 by_cases h:S b
 .rw[o_ h]at e;cases e
 .rw[cN h]at e;exact⟨h,e⟩
def gU{S':Addr->Prop}(i:∀b,S' b->S b\/H b=none)(e:z0 H H'):z0 (hd S H) (hd S' H'):=λb o h=>by
 obtain⟨n,h⟩:=cT h;rw[cN λz=>?_]
 .exact e _ _ h
 .rcases i b z with y|y
  .exact n y
  .rw[h]at y;cases y
def cZ : z0 (hd S H) H:=λ_ _ h=>(cT h).2
def bT(e:z0 H H'):z0 (hd S H) (hd S H'):=gU (λ_=>.inl) e
def Hl:hd (λ_=>False) H=H:=funext λ_=>cN id
inductive OT where
 |und|fz (t:T)|l1 (ts:zn)|l2 (tss:wq)|d1 (ks:xn) (ts:zn)|ob (a dx C:Addr) (ks:Θ) (ts:zn)|la (a:Addr) (ts:zn)
abbrev zC:=List OT
def frz:OT->T
 |.und=>.any
 |.fz t=>t
 |.l1 ts=>.lst ts
 |.l2 tss=>.lst (tss.map T.lst)
 |.d1 ks ts=>.dct ks ts
 |.ob _ _ C ks ts=>.ins C ks ts
 |.la _ ts=>.lst ts
def Slo(K:Frag)(F H:Hp)(v:xL)(A:Φ):OT->Prop
 |.und=>A=[]
 |.fz t=>A=[]/\∃u,v=some u/\Rep K F u t
 |.l1 ts=>∃a xs,v=some (.ref a)/\A=[a]/\H a=some (.lst xs)/\bZ K F xs ts
 |.l2 tss=>∃a bs,v=some (.ref a)/\A=a::bs/\(a::bs).Nodup/\H a=some (.lst (bs.map V.ref))/\bs.length=tss.length/\∀(i:Nat)b ts,bs[i]?=some b->tss[i]?=some ts->∃xs,H b=some (.lst xs)/\bZ K F xs ts
 |.d1 ks ts=>∃a xs,v=some (.ref a)/\A=[a]/\H a=some (.dK (ks.zip xs))/\ks.length=xs.length/\bZ K F xs ts
 |.ob a dx C ks ts=>∃xs,v=some (.ref a)/\A=[a,dx]/\H a=some (.ins C dx (ks.zip xs))/\H dx=some (.own a)/\ks.length=xs.length/\bZ K F xs ts
 |.la a ts=>∃xs,v=some (.ref a)/\A=[a]/\H a=some (.lst xs)/\bZ K F xs ts
def Slo.same{v:xL}{A:Φ}(S:z0 F F')(E:z0 H H'):∀{x:OT},Slo K F H v A x->Slo K F' H' v A x
 |.und,h=>h
 |.fz _,⟨a,u,e,r⟩=>⟨a,u,e,r.same S⟩
 |.l1 _,⟨a,xs,e,z,h,r⟩=>⟨a,xs,e,z,E _ _ h,r.same S⟩
 |.l2 _,⟨a,bs,e,z,n,h,l,r⟩=>⟨a,bs,e,z,n,E _ _ h,l,λi b ts e1 e2=>let⟨xs,q,r⟩:=r i b ts e1 e2;⟨xs,E _ _ q,r.same S⟩⟩
 |.d1 _ _,⟨a,xs,e,z,h,l,r⟩=>⟨a,xs,e,z,E _ _ h,l,r.same S⟩
 |.ob _ _ _ _ _,⟨xs,e,z,h,d,l,r⟩=>⟨xs,e,z,E _ _ h,E _ _ d,l,r.same S⟩
 |.la _ _,⟨xs,e,z,h,r⟩=>⟨xs,e,z,E _ _ h,r.same S⟩
def Slo.off{v:xL}{A:Φ} : ∀{x:OT},Slo K F H v A x->(∀b∈A,∀u,H b=some u->H' b=some u)->Slo K F H' v A x
 |.und,s,_=>s
 |.fz _,s,_=>s
 |.l1 _,⟨a,xs,e,z,w,r⟩,off=>⟨a,xs,e,z,off a (by rw[z];simp) _ w,r⟩
 |.l2 _,⟨a,bs,e,z,nd,w,l,r⟩,off=>⟨a,bs,e,z,nd,off a (by rw[z];simp) _ w,l,λi b ts e1 e2=>let⟨xs,q,r⟩:=r i b ts e1 e2;⟨xs,off b (by rw[z];exact aJ _ (aC e1)) _ q,r⟩⟩
 |.d1 _ _,⟨a,xs,e,z,w,r⟩,off=>⟨a,xs,e,z,off a (by rw[z];simp) _ w,r⟩
 |.ob a dx _ _ _,⟨xs,e,z,w,d,r⟩,off=>⟨xs,e,z,off a (by rw[z];simp) _ w,off dx (by rw[z];simp) _ d,r⟩
 |.la a _,⟨xs,e,z,w,r⟩,off=>⟨xs,e,z,off a (by rw[z];simp) _ w,r⟩
def acT(H:Hp)(a:Addr):Prop:=∃o,H a=some o/\((∃xs,o=.lst xs)\/(∃k,o=.dK k)\/(∃C d f,o=.ins C d f)\/∃x,o=.own x)
def Slo.sole{v:xL}{A:Φ}{x:OT}(h:Slo K F H v A x)(ha:a∈A):acT H a:=by
 cases x with
 |und=>rw[show A=[]from h]at ha;cases ha
 |fz t=>rw[h.1]at ha;cases ha
 |l1 ts=>obtain⟨b,xs,_,rfl,e,_⟩:=h;cases YR.mp ha;exact⟨_,e,.inl ⟨_,rfl⟩⟩
 |l2 tss =>
  obtain⟨b,bs,_,rfl,_,e,l,r⟩:=h;rcases YU.mp ha with z|z
  .exact⟨_,z ▸ e,.inl ⟨_,rfl⟩⟩
  .obtain⟨i,hi⟩:=aV z;have li:i<tss.length:=l ▸ (ao.mp hi).1;obtain⟨xs,q,_⟩:=r i a _ hi (aj li);exact⟨_,q,.inl ⟨_,rfl⟩⟩
 |d1 ks ts=>obtain⟨b,xs,_,rfl,e,_⟩:=h;cases YR.mp ha;exact⟨_,e,.inr (.inl ⟨_,rfl⟩)⟩
 |ob b dx C ks ts =>
  obtain⟨xs,_,rfl,e,d,_⟩:=h;rcases YU.mp ha with z|z
  .exact⟨_,z ▸ e,.inr (.inr (.inl ⟨_,_,_,rfl⟩))⟩
  .cases YR.mp z;exact⟨_,d,.inr (.inr (.inr ⟨_,rfl⟩))⟩
 |la b ts=>obtain⟨xs,_,rfl,e,_⟩:=h;cases YR.mp ha;exact⟨_,e,.inl ⟨_,rfl⟩⟩
def Slo.frz{u:V}{A:Φ}{x:OT}(h:Slo K F H (some u) A x)(S:z0 F F')(E:∀a∈A,F' a=H a):Rep K F' u (frz x):=by
 cases x with
 |und=>exact .any _
 |fz t=>obtain⟨_,w,e,r⟩:=h;cases e;exact r.same S
 |l1 ts=>obtain⟨b,xs,e,rfl,q,r⟩:=h;cases e;exact .lst ((E _ wr).trans q) (r.same S)
 |l2 tss =>
  obtain⟨b,bs,e,rfl,_,q,l,r⟩:=h;cases e;refine .lst ((E _ wr).trans q) (bZ.of_at (by simp[l]) λi x t e1 e2=>?_);rw[aq]at e1 e2;cases e3:bs[i]? with
  |none=>rw[e3]at e1;cases e1
  |some c =>
   cases e4:tss[i]? with
   |none=>rw[e4]at e2;cases e2
   |some ts =>
    rw[e3]at e1;rw[e4]at e2;cases e1;cases e2;obtain⟨xs,q,r⟩:=r i c ts e3 e4;exact .lst ((E _ (aJ _ (aC e3))).trans q) (r.same S)
 |d1 ks ts=>obtain⟨b,xs,e,rfl,q,l,r⟩:=h;cases e;exact .dct (.inl ((E _ wr).trans q)) l (r.same S)
 |ob b dx C ks ts=>obtain⟨xs,e,rfl,q,d,l,r⟩:=h;cases e;exact .ins ((E _ wr).trans q) ((E _ wr).trans d) l (r.same S)
 |la b ts=>obtain⟨xs,e,rfl,q,r⟩:=h;cases e;exact .lst ((E _ wr).trans q) (r.same S)
abbrev zk:Type:=Nat->Φ
def Ow(own:zk)(b:Addr):Prop:=∃i,b∈own i
structure SR(K:Frag)(own:zk)(H:Hp)(σ:L2.St)(o:zC):Prop where
 len:o.length=σ.length
 sl:∀i x,o[i]?=some x->Slo K (hd (Ow own) H) H (σ[i]?.join) (own i) x
 out:∀i,o.length<=i->∀a∈own i,∃xs,H a=some (.lst xs)
 dis:∀i j a,a∈own i->a∈own j->i=j
variable{own:zk}{σ:L2.St}{o:zC}
def SR.same(h:SR K own H σ o)(E:z0 H H'):SR K own H' σ o:=⟨h.len,λi x e=>(h.sl i x e).same (bT E) E,λi hi a ha=>let⟨xs,e⟩:=h.out i hi a ha;⟨xs,E _ _ e⟩,h.dis⟩
def SR.sole(h:SR K own H σ o){b:Addr}(z:Ow own b):acT H b:=by
 obtain⟨i,z⟩:=z;by_cases hi:i<o.length
 .exact(h.sl i _ (aj hi)).sole z
 .obtain⟨xs,e⟩:=h.out i (Nat.not_lt.mp hi) b z;exact⟨_,e,.inl ⟨_,rfl⟩⟩
def acT.ne(h:acT H a):H a≠none:=by
 obtain⟨o,e,_⟩:=h;rw[e];exact λz=>by cases z
def NR(K:Frag)(S:Addr->Prop)(H H':Hp)(v:V)(x:OT):Prop:=∃B,(∀a∈B,H a=none)/\Slo K (hd (λb=>S b\/b∈B) H') H' (some v) B x
def NR.rep{x:OT}(h:NR K S H H' v x)(hs:∀b,S b->H b≠none):Rep K (hd S H') v (L2.frz x):=by
 obtain⟨B,n,r⟩:=h;exact r.frz (gU (λb z=>.inl (.inl z)) (λ_ _ z=>z)) λa ha=>cN λz=>hs a z (n a ha)
def NR.fz{S:Addr->Prop}{v:V}{t:T}(h:Rep K (hd S H') v t):NR K S H H' v (.fz t):=⟨[],λ_ z=>(nomatch z),rfl,v,rfl,h.same (gU (λb z=>.inl (z.elim id λy=>(nomatch y))) λ_ _ z=>z)⟩
def NR.l1{S:Addr->Prop}{a:Addr}{xs:Ε}{ts:zn}(n:H a=none)(e:H' a=some (.lst xs))(h:bZ K (hd (λb=>S b\/b=a) H') xs ts):NR K S H H' (.ref a) (.l1 ts) :=
 ⟨[a],λ_ z=>(YR.mp z) ▸ n,a,xs,rfl,rfl,e,h.same (gU (λb z=>.inl (z.imp id YR.mp)) λ_ _ z=>z)⟩
def NR.back{H0:Hp}{x:OT}(h:NR K S H H' v x)(E:z0 H0 H):NR K S H0 H' v x:=by
 obtain⟨B,n,r⟩:=h;exact⟨B,λa ha=>E.free (n a ha),r⟩
def own1(own:zk)(i:Nat)(B:Φ):zk:=λj=>if j=i then B else own j
def jf{B:Φ} : own1 own i B i=B:=ZY rfl
def eN{j:Nat}{B:Φ}(h:j≠i):own1 own i B j=own j:=ZZ h
def Ow.of1{B:Φ}(h:Ow (own1 own i B) b):Ow own b\/b∈B:=by
 obtain⟨j,h⟩:=h;by_cases z:j=i
 .rw[z,jf]at h;exact .inr h
 .rw[eN z]at h;exact .inl ⟨j,h⟩
def SR.put(h:SR K own H σ o)(E:z0 H H'){x:OT}(n:NR K (Ow own) H H' v x)(hi:i<o.length):∃am,SR K am H' (σ.set i (some v)) (o.set i x)/\z0 (hd (Ow own) H) (hd (Ow am) H'):=by
 obtain⟨B,nb,r⟩:=n;have le:z0 (hd (Ow own) H) (hd (Ow (own1 own i B)) H'):=gU (λb z=>z.of1.imp id (nb b)) E;refine⟨own1 own i B,⟨by rw[WH,WH,h.len],λj y e=>?_,λj hj=>?_,λj k a e1 e2=>?_⟩,le⟩
 .by_cases z:j=i
  .subst z;rw[UU hi]at e;cases e;rw[jf,UU (h.len ▸ hi)];exact r.same (gU (λb z=>.inl z.of1) λ_ _ z=>z) λ_ _ z=>z
  .rw[VQ (Ne.symm z)]at e;rw[eN z,VQ (Ne.symm z)];exact(h.sl j y e).same le E
 .rw[WH]at hj;rw[eN wo];intro a ha;obtain⟨xs,e⟩:=h.out j hj a ha;exact⟨xs,E _ _ e⟩
 .by_cases z:j=i<;>by_cases y:k=i
  .rw[z,y]
  .rw[z,jf]at e1;rw[eN y]at e2;exact absurd (nb a e1) (h.sole ⟨k,e2⟩).ne
  .rw[y,jf]at e2;rw[eN z]at e1;exact absurd (nb a e2) (h.sole ⟨j,e1⟩).ne
  .rw[eN z]at e1;rw[eN y]at e2;exact h.dis j k a e1 e2
def SR.frz(h:SR K own H σ o){i:Nat}{x:OT}(e:o[i]?=some x){u:V}(hu:σ[i]?=some (some u)):∃am,SR K am H σ (o.set i (.fz (L2.frz x)))/\z0 (hd (Ow own) H) (hd (Ow am) H):=by
 have hi:i<o.length:=(ao.mp e).1;have le:z0 (hd (Ow own) H) (hd (Ow (own1 own i [])) H):=gU (λb z=>.inl (z.of1.elim id λy=>(nomatch y))) λ_ _ z=>z;have hs:=h.sl i x e;rw[hu]at hs;refine⟨own1 own i [],⟨by rw[WH,h.len],λj y e'=>?_,λj hj=>?_,λj k a e1 e2=>?_⟩,le⟩
 .by_cases z:j=i
  .subst z;rw[UU hi]at e';cases e';rw[jf,hu];exact⟨rfl,u,rfl,Slo.frz hs le λa ha=>cN λz=>by
    obtain⟨k,z⟩:=z;by_cases y:k=j
    .rw[y,jf]at z;cases z
    .rw[eN y]at z;exact y (h.dis k j a z ha)⟩
  .rw[VQ (Ne.symm z)]at e';rw[eN z];exact(h.sl j y e').same le λ_ _ z=>z
 .rw[WH]at hj;rw[eN wo];exact h.out j hj
 .by_cases z:j=i
  .rw[z,jf]at e1;cases e1
  by_cases y:k=i
  .rw[y,jf]at e2;cases e2
  .rw[eN z]at e1;rw[eN y]at e2;exact h.dis j k a e1 e2
def SR.chg(h:SR K own H σ o){x:OT}(e:o[i]?=some x){y:OT}(E:∀b u,b∉own i->H b=some u->H' b=some u)(r:Slo K (hd (Ow own) H') H' (σ[i]?.join) (own i) y):SR K own H' σ (o.set i y)/\z0 (hd (Ow own) H) (hd (Ow own) H'):=by
 have hi:i<o.length:=(ao.mp e).1;have le:z0 (hd (Ow own) H) (hd (Ow own) H'):=λb u z=>by
  obtain⟨n,z⟩:=cT z;rw[cN n];exact E b u (λq=>n ⟨i,q⟩) z
 refine⟨⟨by rw[WH,h.len],λj z e'=>?_,λj hj a ha=>?_,h.dis⟩,le⟩
 rotate_left
 .rw[WH]at hj;obtain⟨xs,e2⟩:=h.out j hj a ha;exact⟨xs,E a _ (λz=>by have:=h.dis j i a ha z;lia) e2⟩
 by_cases q:j=i
 .subst q;rw[UU hi]at e';cases e';exact r
 .rw[VQ (Ne.symm q)]at e';exact((h.sl j z e').same le λ_ _ z=>z).off λb hb u=>E b u λz=>q (h.dis j i b hb z)
def SR.get(h:SR K own H σ o){i:Nat}{t:T}(e:o[i]?=some (.fz t)):∃u,σ[i]?=some (some u)/\Rep K (hd (Ow own) H) u t:=by
 obtain⟨_,u,q,r⟩:=h.sl i _ e;refine⟨u,?_,r⟩;cases z:σ[i]? with
 |none=>rw[z]at q;cases q
 |some w=>rw[z]at q;exact ZH some q
end
end L2
namespace L2
open PySem PySem.Spec PyProof.Rows
abbrev RE:=zC->(OT->Prop)->Prop
abbrev RT:=zC->(Bool->Prop)->Prop
abbrev RA:=zC->(zn->Prop)->Prop
def tQ(K:Frag)(r:RE):TE:=λσ H Q=>∃own o R,SR K own H σ o/\r o R/\∀H' v x,R x->z0 H H'->NR K (Ow own) H H' v x->Q v H'
def tQT(K:Frag)(r:RT):TT:=λσ H Q=>∃own o R,SR K own H σ o/\r o R/\∀H' b,R b->z0 H H'->Q b H'
def tQA(K:Frag)(n:Nat)(r:RA):TA:=λσ H Q=>∃own o R,SR K own H σ o/\r o R/\∀H' vs ts,R ts->ts.length=n->z0 H H'->bZ K (hd (Ow own) H') vs ts->Q vs H'
def QE(X:Cx)(e:Expr)(r:RE):Prop:=PE X e (tQ X.K r)
def QT(X:Cx)(e:Expr)(r:RT):Prop:=PT X e (tQT X.K r)
def QW(X:Cx)(e:Expr)(r:RT):Prop:=PW X e (tQT X.K r)
def QA(X:Cx)(es:ze)(r:RA):Prop:=PA X es (tQA X.K es.length r)
variable{X:Cx}{e:Expr}{es:ze}{K:Frag}{own:zk}{H:Hp}{σ:L2.St}{o:zC}{R:OT->Prop}{Q:VK}{b:Bool}{x:Str}{pos:Pos}{t:T}{v:V}
def PT.imp{t t':TT}(h:PT X e t)(i:∀σ H Q,t' σ H Q->t σ H Q):PT X e t':=λaa s σ H Q I q=>h aa s σ H Q I (i σ H Q q)
def PW.imp{t t':TT}(h:PW X e t)(i:∀σ H Q,t' σ H Q->t σ H Q):PW X e t':=λwh aa s σ H Q I q=>h wh aa s σ H Q I (i σ H Q q)
def PA.imp{t t':TA}(h:PA X es t)(i:∀σ H Q,t' σ H Q->t σ H Q):PA X es t':=λp aa s σ H Q I q=>h p aa s σ H Q I (i σ H Q q)
def tQ.mk{r:RE}(h:SR K own H σ o)(hr:r o R)(k:∀H' v x,R x->z0 H H'->Rep K (hd (Ow own) H') v (frz x)->Q v H'):tQ K r σ H Q :=
 ⟨own,o,R,h,hr,λH' v x rx E n=>k H' v x rx E (n.rep λb z=>(h.sole z).ne)⟩
def slot:zC->Nat->OT
 |[],_=>.und
 |x::_,0=>x
 |_::l,n+1=>slot l n
theorem gY:∀{o:zC}{i:Nat}{x:OT},slot o i=x->x≠.und->o[i]?=some x
 |[],_,_,e,n=>absurd e.symm n
 |_::_,0,_,e,_=>ZH some e
 |_::l,i+1,x,e,n=>by simpa using gY (o:=l) (i:=i) e n
def aiU(i:Nat):RE:=λo q=>match slot o i with|.fz t=>q (.fz t)|_=>False
def rC(t:T):RE:=λ_ q=>q (.fz t)
abbrev zz:Type:=T->T->(OT->Prop)->Prop
def rOp(g:zz)(a b:RE):RE:=λo q=>a o λx=>b o λy=>g (frz x) (frz y) q
def rUn(g:T->(OT->Prop)->Prop)(a:RE):RE:=λo q=>a o λx=>g (frz x) q
def sw(b:Bool)(p q:Prop):Prop:=match b with|true=>p|false=>q
def sw2{p q:Prop}(h1:b=true->p)(h2:b=false->q):sw b p q:=by
 cases b
 .exact h2 rfl
 .exact h1 rfl
def swD{c:Prop}[Decidable c]{p q:Prop}(h1:c->p)(h2:¬c->q):sw (decide c) p q:=sw2 (λe=>h1 (of_decide_eq_true e)) λe=>h2 (of_decide_eq_false e)
def swT{p q:Prop}(e:b=true)(h:p):sw b p q:=by subst e;exact h
def swF{p q:Prop}(e:b=false)(h:q):sw b p q:=by subst e;exact h
def qv(i:Nat)(hN:X.N[i]?=some x:=by rfl)(hv:o7 X.env.scope x=true:=by rfl)(hd:qk x:=by decide)
 (aI:qf x:=by decide):QE X (.Name x pos) (aiU i):=(pv i hN hv hd aI).imp λσ H Q hP=>by
 obtain⟨own,o,R,h,hr,k⟩:=hP;unfold aiU at hr;cases e:slot o i with
 |fz t =>
  rw[e]at hr;obtain⟨u,q,r⟩:=h.get (gY e (by intro z;cases z));exact⟨u,q,k H u _ hr (.refl _) (NR.fz r)⟩
 |_=>rw[e]at hr;exact hr.elim
def wn(hN:X.N[0]?=some x:=by rfl)(hv:o7 X.env.scope x=true:=by rfl)(hd:qk x:=by decide)(aI:qf x:=by decide):QE X (.Name x pos) (aiU 0):=qv 0 hN hv hd aI
def we(hN:X.N[1]?=some x:=by rfl)(hv:o7 X.env.scope x=true:=by rfl)(hd:qk x:=by decide)(aI:qf x:=by decide):QE X (.Name x pos) (aiU 1):=qv 1 hN hv hd aI
def wa(hN:X.N[2]?=some x:=by rfl)(hv:o7 X.env.scope x=true:=by rfl)(hd:qk x:=by decide)(aI:qf x:=by decide):QE X (.Name x pos) (aiU 2):=qv 2 hN hv hd aI
def wP(hN:X.N[3]?=some x:=by rfl)(hv:o7 X.env.scope x=true:=by rfl)(hd:qk x:=by decide)(aI:qf x:=by decide):QE X (.Name x pos) (aiU 3):=qv 3 hN hv hd aI
def wE(hN:X.N[4]?=some x:=by rfl)(hv:o7 X.env.scope x=true:=by rfl)(hd:qk x:=by decide)(aI:qf x:=by decide):QE X (.Name x pos) (aiU 4):=qv 4 hN hv hd aI
def qC(h:PE X e (tC v))(r:∀F,Rep X.K F v t):QE X e (rC t):=h.imp λσ H Q hP=>by obtain⟨own,o,R,_,hr,k⟩:=hP;exact k H v _ hr (.refl _) (NR.fz (r _))
def bC{i j pos} : QE X (.Constant (.int i) j pos) (rC (.int i)):=qC aaV λ_=>.int _
def gW{b j pos} : QE X (.Constant (.bool b) j pos) (rC (.bl b)):=qC anb λ_=>.bl _
def fY{j pos} : QE X (.Constant .none j pos) (rC .non):=qC aiN λ_=>.non
def lJ{x j pos} : QE X (.Constant (.str x) j pos) (rC (.str x)):=qC Lb λ_=>.str _
def Ue(hm:∃u,X.mg x=some u/\z4 v u)(r:∀F,Rep X.K F v t)(hg:Gl X x:=by rfl)(hd:qk x:=by decide):QE X (.Name x pos) (rC t):=qC (adQ hg hm hd) r
variable{b a c:Expr}{ra rb re:RE}{g:zz}{op:CmpOp}{S:Addr->Prop}{H':Hp}{xs:Ε}{ts:zn}{f:Addr}{P:Program}{w:World}{mg:Str->Ψ}{base:Heap}{k n:Nat}{fd:FuncData}{ps:Θ}{r:RA}{p p2:Pos}{α:Type}{lo hi:Option Expr}
def GO(X:Cx)(f:Value->Value->Sem Value)(g:zz):Prop:=OpR X f λx y H Q=>∃S t u R,(∀b,S b->H b≠none)/\Rep X.K (hd S H) x t/\Rep X.K (hd S H) y u/\g t u R/\∀H' v z,R z->z0 H H'->NR X.K S H H' v z->Q v H'
theorem q2{g:zz}{σ:L2.St}{H:Hp}{Q:VK}(h:tQ X.K (rOp g ra rb) σ H Q):tOp (λx y H Q=>∃S t u R,(∀b,S b->H b≠none)/\Rep X.K (hd S H) x t/\Rep X.K (hd S H) y u/\g t u R/\∀H' v z,R z->z0 H H'->NR X.K S H H' v z->Q v H') (tQ X.K ra) (tQ X.K rb) σ H Q:=by
 obtain⟨own,o,R,h,hr,k⟩:=h;exact tQ.mk h hr λH1 v x q E1 r1=>tQ.mk (h.same E1) q λH2 w y q2 E2 r2=>⟨Ow own,_,_,R,λb z=>((h.same (E1.trans E2)).sole z).ne,r1.same (bT E2),r2,q2,λH' u z rz E3 n=>k H' u z rz (E1.trans (E2.trans E3)) (n.back (E1.trans E2))⟩
def bL{op:Operator}(ho:GO X (binaryOp op) g)(ha:QE X a ra)(hb:QE X b rb):QE X (.BinOp a op b pos) (rOp g ra rb):=(ajW ho ha hb).imp λ_ _ _=>q2
def qR(ho:GO X (compareOp op) g)(ha:QE X a ra)(hb:QE X b rb)(hm:behindInMarks op b=false:=by exact acd _):QE X (.Compare a [op] [b] pos) (rOp g ra rb):=(afY ho ha hb hm).imp λ_ _ _=>q2
def gI(g:Int->Int->OT):zz
 |.int i,.int j,q=>q (g i j)
 |_,_,_=>False
def GO.ints{f:Value->Value->Sem Value}{g:Int->Int->V}{t:Int->Int->T}(h:OpR X f (rI0 g))(r:∀i j F,Rep X.K F (g i j) (t i j)):GO X f (gI λi j=>.fz (t i j)):=h.imp λx y H Q hP=>by
 obtain⟨S,t,u,R,_,hx,hy,hg,k⟩:=hP;cases hx<;>try exact hg.elim
 cases hy<;>try exact hg.elim
 exact⟨_,_,rfl,rfl,k H _ _ hg (.refl _) (NR.fz (r _ _ _))⟩
def Qx:GO X (binaryOp .Sub) (gI λi j=>.fz (.int (i-j))):=.ints agP λ_ _ _=>.int _
def Cg:GO X (compareOp .Lt) (gI λi j=>.fz (.bl (decide (i<j)))):=.ints alb λ_ _ _=>.bl _
def JF:GO X (compareOp .LtE) (gI λi j=>.fz (.bl (decide (i<=j)))):=.ints akX λ_ _ _=>.bl _
def Nr:GO X (compareOp .Gt) (gI λi j=>.fz (.bl (decide (j<i)))):=.ints anE λ_ _ _=>.bl _
def agF:GO X (compareOp .GtE) (gI λi j=>.fz (.bl (decide (j<=i)))):=.ints an1 λ_ _ _=>.bl _
def aoh:zz
 |.int i,.int j,q=>q (.fz (.int (i+j)))
 |.str a,.str b,q=>a.length+b.length<=sizeLine/\q (.fz (.str (a++b)))
 |.lst a,.lst b,q=>a.length+b.length<=sizeLine/\q (.l1 (a++b))
 |_,_,_=>False
def xV{p:Addr}(r:bZ X.K (hd S H) xs ts)(E:z0 H H')(n:H p=none)(e:H' p=some (.lst xs)):NR X.K S H H' (.ref p) (.l1 ts) :=
 NR.l1 n e (r.same (gU (λb z=>z.imp id λ(y:b=p)=>y ▸ n) E))
def cD:GO X (binaryOp .Add) aoh:=λaa s σ H x y v u Q I rx ry hP=>by
 obtain⟨S,t,w,R,_,hx,hy,hg,k⟩:=hP;cases t<;>try exact hg.elim
 .cases hx;cases w<;>try exact hg.elim
  cases hy;exact aik aa s σ H _ _ v u Q I rx ry ⟨_,_,rfl,rfl,k H _ _ hg (.refl _) (NR.fz (.int _))⟩
 .cases hx;cases w<;>try exact hg.elim
  cases hy;exact aeD aa s σ H _ _ v u Q I rx ry ⟨_,_,rfl,rfl,hg.1,k H _ _ hg.2 (.refl _) (NR.fz (.str _))⟩
 .cases w<;>try exact hg.elim
  obtain⟨a,xs,rfl,e1,r1⟩:=hx.lstI;obtain⟨b,ys,rfl,e2,r2⟩:=hy.lstI;exact af2 aa s σ H _ _ v u Q I rx ry ⟨a,b,xs,ys,rfl,rfl,(cT e1).2,(cT e2).2,by rw[r1.len,r2.len];exact hg.1,λp H' E n e=>k H' _ _ hg.2 E (xV (r1.app r2) E n e)⟩
def aoO:zz
 |.int i,.int j,q=>(Bd i/\Bd j)/\q (.fz (.int (i*j)))
 |.lst a,.int j,q=>(-(2^63)<=j/\j<2^63/\a.length*j.toNat<=sizeLine)/\∀z,z=(List.replicate j.toNat a).flatten->q (.l1 z)
 |.str a,.int j,q=>(∃c,a=⟨#[c]⟩/\1<=j/\j<=1000/\∀z:Str,z.cps.toList=List.replicate j.toNat c->q (.fz (.str z)))
 |_,_,_=>False
def aoN:zz
 |.int i,.int j,q=>(j≠0/\Bd j)/\q (.fz (.int (i.fdiv j)))
 |_,_,_=>False
def apk:zz
 |.int i,.int j,q=>0<j/\q (.fz (.int (i%j)))
 |_,_,_=>False
def apf:zz
 |.int i,.int j,q=>aj9 i j/\q (.fz (.int (i^j.toNat)))
 |_,_,_=>False
def iD:GO X (binaryOp .FloorDiv) aoN:=adA.imp λx y H Q hP=>by
 obtain⟨S,t,u,R,_,hx,hy,hg,k⟩:=hP;cases hx<;>try exact hg.elim
 cases hy<;>try exact hg.elim
 exact⟨_,_,rfl,rfl,hg.1,k H _ _ hg.2 (.refl _) (NR.fz (.int _))⟩
def cB:GO X (binaryOp .Mod) apk:=ai4.imp λx y H Q hP=>by
 obtain⟨S,t,u,R,_,hx,hy,hg,k⟩:=hP;cases hx<;>try exact hg.elim
 cases hy<;>try exact hg.elim
 exact⟨_,_,rfl,rfl,hg.1,k H _ _ hg.2 (.refl _) (NR.fz (.int _))⟩
def adM:GO X (binaryOp .Pow) apf:=aib.imp λx y H Q hP=>by
 obtain⟨S,t,u,R,_,hx,hy,hg,k⟩:=hP;cases hx<;>try exact hg.elim
 cases hy<;>try exact hg.elim
 exact⟨_,_,rfl,rfl,hg.1,k H _ _ hg.2 (.refl _) (NR.fz (.int _))⟩
def apA:T->(OT->Prop)->Prop
 |.int i,q=>q (.fz (.int (-i)))
 |_,_=>False
def En(ha:QE X a ra):QE X (.UnaryOp .USub a pos) (rUn apA ra):=(akq ahP ha).imp λσ H Q ⟨own,o,R,h,hr,k⟩=>tQ.mk h hr λH1 v x q E1 r1=>by
 revert r1 q
 generalize frz x=t;intro q r1;cases r1<;>try exact q.elim
 exact⟨_,rfl,k _ _ _ q E1 (NR.fz (.int _))⟩
def Y6:T->xS
 |.non=>some true
 |.any=>none
 |.val v=>some (decide (v=.non))
 |_=>some false
def gIs(neg:Bool):zz:=λt u q=>match u,Y6 t with
 |.non,some b=>q (.fz (.bl (xor neg b)))
 |_,_=>False
def Uy{F:Hp}{x:V}{b:Bool}(h:Rep K F x t)(e:Y6 t=some b):decide (x=.non)=b:=by
 cases h<;>cases e<;>first|rfl|(apply Zp;intro z;cases z)
def Bj:GO X (compareOp .Is) (gIs false):=ahE.imp λx y H Q hP=>by
 obtain⟨S,t,u,R,_,hx,hy,hg,k⟩:=hP;cases hy<;>try exact hg.elim
 unfold gIs at hg;cases e:Y6 t with
 |none=>rw[e]at hg;exact hg.elim
 |some b=>rw[e]at hg;exact⟨rfl,k H _ _ hg (.refl _) (NR.fz (by rw[Uy hx e,Bool.false_xor];exact .bl _))⟩
def Hq:GO X (compareOp .IsNot) (gIs true):=afX.imp λx y H Q hP=>by
 obtain⟨S,t,u,R,_,hx,hy,hg,k⟩:=hP;cases hy<;>try exact hg.elim
 unfold gIs at hg;cases e:Y6 t with
 |none=>rw[e]at hg;exact hg.elim
 |some b=>rw[e]at hg;exact⟨rfl,k H _ _ hg (.refl _) (NR.fz (by rw[Uy hx e,Bool.true_xor];exact .bl _))⟩
structure Hid(H:Hp)(S:Addr->Prop):Prop where
 sole:∀b,S b->acT H b
 ins:∀a C dx fs,S a->H a=some (.ins C dx fs)->S dx
 own:∀b x,S b->H b=some (.own x)->S x
def SR.mate(h:SR K own H σ o){j:Nat}{b:Addr}(hb:b∈own j):(∀C d f,H b=some (.ins C d f)->d∈own j)/\∀x,H b=some (.own x)->x∈own j:=by
 have nl:∀{xs:Ε},H b=some (.lst xs)->(∀C d f,H b=some (.ins C d f)->d∈own j)/\∀x,H b=some (.own x)->x∈own j:=λq=>⟨(λ_ _ _ e=>by rw[q]at e;cases e),(λ_ e=>by rw[q]at e;cases e)⟩;by_cases hj:j<o.length
 .have s:=h.sl j _ (aj hj);cases y:o[j]with
  |und=>rw[y]at s;rw[show own j=[]from s]at hb;cases hb
  |fz t=>rw[y]at s;rw[s.1]at hb;cases hb
  |l1 ts=>rw[y]at s;obtain⟨c,xs,_,w,q,_⟩:=s;rw[w]at hb;cases YR.mp hb;exact nl q
  |l2 tss =>
   rw[y]at s;obtain⟨c,bs,_,w1,_,q1,l,r⟩:=s;rw[w1]at hb;rcases YU.mp hb with z|z
   .exact nl (z ▸ q1)
   .obtain⟨i,hi⟩:=aV z;obtain⟨xs,q2,_⟩:=r i b _ hi (aj (l ▸ (ao.mp hi).1));exact nl q2
  |d1 ks ts=>rw[y]at s;obtain⟨c,xs,_,w,q,_⟩:=s;rw[w]at hb;cases YR.mp hb;exact⟨(λ_ _ _ e=>by rw[q]at e;cases e),(λ_ e=>by rw[q]at e;cases e)⟩
  |la c ts=>rw[y]at s;obtain⟨xs,_,w,q,_⟩:=s;rw[w]at hb;cases YR.mp hb;exact nl q
  |ob c d C' ks ts =>
   rw[y]at s;obtain⟨xs,_,w,q,q2,_⟩:=s;rw[w]at hb ⊢;rcases YU.mp hb with z|z
   .refine⟨λ_ _ _ e=>?_,λ_ e=>?_⟩
    .rw[z,q]at e;cases e;simp
    .rw[z,q]at e;cases e
   .cases YR.mp z;refine⟨λ_ _ _ e=>?_,λ_ e=>?_⟩
    .rw[q2]at e;cases e
    .rw[q2]at e;cases e;simp
 .obtain⟨xs,q⟩:=h.out j (Nat.not_lt.mp hj) b hb;exact nl q
def SR.hid(h:SR K own H σ o):Hid H (Ow own) :=
 ⟨λb z=>h.sole z,λa C dx fs ⟨j,z⟩ e=>⟨j,(h.mate z).1 C dx fs e⟩,λb x ⟨j,z⟩ e=>⟨j,(h.mate z).2 x e⟩⟩
def mrg(S:Addr->Prop)(H G:Hp):Hp:=λb=>open Classical in if S b then H b else G b
def uK{G:Hp}{b:Addr}(h:S b):mrg S H G b=H b:=by unfold mrg;rw[ZY h]
def jV{G:Hp}{b:Addr}(h:¬S b):mrg S H G b=G b:=by unfold mrg;rw[ZZ h]
def spH(sp:Sp):Sp:=λvs H Q _=>∃S:Addr->Prop,Hid H S/\sp vs (hd S H) (λv G=>(∀b,S b->G b=none)->Q v (mrg S H G)) λ_ _ _=>False
def d9.hid{sp:Sp}(F:d9 P w K mg base CX0 k f fd ps sp):d9 P w K mg base CX0 k f fd ps (spH sp):=by
 refine⟨λvs H Q E h=>?_,λA outer s H args us vs Q E hr e0 hb r h=>?_⟩
 .obtain⟨S,_,z⟩:=h;exact F.len vs _ _ _ z
 obtain⟨S,hS,z⟩:=h;have non:∀{b:Addr},H b=none->hd S H b=none:=λ{b}e=>by
  by_cases z:S b
  .exact o_ z
  .rw[cN z];exact e
 have eB:∀{b:Addr}{u:HO},S b->H b=some u->(∀xs,u≠.tup xs)/\(∀o v,u≠.frz o v)/\∀ps,u≠.tbl ps:=λ{b u}z e=>by
  obtain⟨o,q,w⟩:=hS.sole b z;rw[e]at q;cases q;rcases w with⟨_,rfl⟩|⟨_,rfl⟩|⟨_,_,_,rfl⟩|⟨_,rfl⟩<;>exact⟨λ_ z=>(nomatch z),λ_ _ z=>(nomatch z),λ_ z=>(nomatch z)⟩
 have e1:Va P w K mg base A outer s (hd S H):=⟨e0.frames,e0.mod,λb o e=>⟨(e0.bs b o e).1,non (e0.bs b o e).2⟩,e0.bsz,e0.funs,λb hb=>non (e0.frf b hb),λb u e=>by
  obtain⟨nb,e'⟩:=cT e;refine(e0.hok b u e').stay (λ_ _ _ z=>z) (λd z=>?_) λd xs z=>?_
  .rw[cN λy=>nb (hS.own d b y z)];exact z
  .rw[cN λy=>(eB y z).1 xs rfl];exact z,e0.bare⟩
 refine codeAny_mono (F.run A outer s (hd S H) args us vs _ _ hr e1 hb r z) λres s' hs=>?_;cases res with
 |error e=>exact hs.elim
 |ok fl =>
  cases fl with
  |next=>exact False.elim hs
  |brk=>exact False.elim hs
  |cont=>exact False.elim hs
  |ret u =>
   obtain⟨v,G,os,bare,un,hok,rv,q⟩:=hs;have there:∀{b:Addr},S b->∃o,s.heap.get? b=some o:=λ{b}y=>by
    obtain⟨u,e,w⟩:=hS.sole b y;have x:=e0.hok b u e;rcases w with⟨xs,rfl⟩|⟨kk,rfl⟩|⟨C,d,f,rfl⟩|⟨y,rfl⟩
    .obtain⟨_,_,_,_,e2⟩:=x;exact⟨_,e2⟩
    .obtain⟨_,_,_,_,_,_,_,e2,_⟩:=x;exact⟨_,e2⟩
    .obtain⟨_,_,_,e2,_⟩:=x;exact⟨_,e2⟩
    .exact x
   have keep:∀{b:Addr}{o:Obj},S b->s.heap.get? b=some o->s'.heap.get? b=some o:=λ{b o}y e=>un.keep b o e (o_ y) (λz=>(hS.sole b y).ne (e0.frf b z)) wr;have a9:∀b,S b->G b=none:=λb y=>by
    obtain⟨o,ho⟩:=there y;exact un.free b o ho (o_ y) wr
   have no':∀{b:Addr}{u:HO},G b=some u->¬S b:=λe z=>by rw[a9 _ z]at e;cases e
   have dm:∀{b:Addr}{u:HO},G b=some u->mrg S H G b=some u:=λe=>(jV (no' e)).trans e;refine⟨v,mrg S H G,os,bare,⟨λb o e n=>un.keep b o e (non n),λb o e n=>un.slot b o e (non n),λb o e n z=>?_,un.there,λb xs e=>?_,λb o u e=>?_,λb ps e=>?_⟩,λb u e=>?_,rv,q a9⟩
   .rw[jV λy=>(hS.sole b y).ne n];exact un.free b o e (non n) z
   .have n:¬S b:=λy=>(eB y e).1 xs rfl;exact dm (un.tups b xs ((cN n).trans e))
   .have n:¬S b:=λy=>(eB y e).2.1 o u rfl;exact dm (un.frzs b o u ((cN n).trans e))
   .have n:¬S b:=λy=>(eB y e).2.2 ps rfl;obtain⟨more,this⟩:=un.tbls b ps ((cN n).trans e);exact⟨more,dm this⟩
   .by_cases z:S b
    .rw[uK z]at e;have x:=e0.hok b u e;obtain⟨u',e',w⟩:=hS.sole b z;rw[e]at e';cases e';rcases w with⟨xs,rfl⟩|⟨kk,rfl⟩|⟨C,d,f,rfl⟩|⟨y,rfl⟩
     .obtain⟨z1,its,n,r,e2⟩:=x;exact⟨z1,its,n,r,keep z e2⟩
     .obtain⟨z1,y,vs,r,ob,es,ep,e2,c⟩:=x;exact⟨z1,y,vs,r,ob,es,ep,keep z e2,c⟩
     .obtain⟨d1,z1,ne,e2,mA,⟨od,es,ep,e3,c⟩,r⟩:=x;have sd:=hS.ins b C d f z e;exact⟨(uK sd).trans d1,z1,ne,keep z e2,mA,⟨od,es,ep,keep sd e3,c⟩,r⟩
     .obtain⟨ob,e2⟩:=x;exact⟨ob,keep z e2⟩
    .rw[jV z]at e;exact(hok b u e).stay (λ_ _ _ z=>z) (λd z=>dm z) λd xs z=>dm z
abbrev ST:=zn->(OT->Prop)->Prop
def spT(K:Frag)(S:ST):Sp:=λvs H Q _=>∃ts R,bZ K H vs ts/\S ts R/\∀H' v x,R x->z0 H H'->NR K (λ_=>False) H H' v x->Q v H'
abbrev OkT(P:Program)(w:World)(K:Frag)(mg:Str->Ψ)(base:Heap)(k:Nat)(x:Str)(ps:Θ)(S:ST):Prop:=OkF P w K mg base k x ps (spT K S)
def aiY:RA:=λ_ q=>q []
def agp(a:RE)(r:RA):RA:=λo q=>a o λx=>r o λts=>q (frz x::ts)
def bA:QA X [] aiY:=jB.imp λσ H Q hP=>by obtain⟨own,o,R,h,hr,k⟩:=hP;exact k H [] [] hr rfl (.refl _) .nil
def tQA.mk{R:zn->Prop}{Q:Ε->Hp->Prop}(h:SR K own H σ o)(hr:r o R)(k:∀H' vs ts,R ts->ts.length=n->z0 H H'->bZ K (hd (Ow own) H') vs ts->Q vs H'):tQA K n r σ H Q:=⟨own,o,R,h,hr,k⟩
def bx{a:RE}(ha:QE X e a)(hr:QA X es r)(hs:qo X e es:=by rfl):QA X (e::es) (agp a r):=(cQ ha hr hs).imp λσ H Q ⟨own,o,R,h,hr,k⟩ =>
 tQ.mk h hr λH1 v x q E1 r1=>tQA.mk (h.same E1) q λH2 vs ts q2 ln E2 r2=>k H2 (v::vs) (frz x::ts) q2 (ZH (· + 1) ln) (E1.trans E2) (.cons (r1.same (bT E2)) r2)
def acU(S:ST)(r:RA):RE:=λo q=>r o λts=>S ts q
def bI{S:ST}(G:OkT X.prog X.w X.K X.mg X.base k x ps S)(ha:QA X (e::es) r)(hr:dH k X.A:=by exact dH.mono (by assumption) wp)(hg:Gl X x:=by rfl)(bo:qk x:=by decide)
 (he:qo X e es:=by rfl)(aE:qh X pos es:=by rfl):QE X (.Call (.Name x p) (e::es) [] pos) (acU S r):=by
 obtain⟨f,fd,F,b,hm,kp⟩:=G;refine(K5 (sp:=spH (spT X.K S)) ⟨f,fd,F.hid,b,hm,kp⟩ hr hg ha bo he aE).imp λσ H Q ⟨own,o,R,h,hr,k⟩=>tQA.mk h hr λH1 vs ts q _ E1 r1=>?_;have h1:=h.same E1;refine⟨Ow own,h1.hid,ts,R,r1,q,λG v x rx E n a9=>?_⟩;have EH:z0 H1 (mrg (Ow own) H1 G):=λb u e=>by
  by_cases z:Ow own b
  .rw[uK z];exact e
  .rw[jV z];exact E b u ((cN z).trans e)
 have EG:z0 G (mrg (Ow own) H1 G):=λb u e=>by rw[jV λz=>by rw[a9 b z]at e;cases e];exact e
 refine k _ v x rx (E1.trans EH) (NR.back (H:=H1) ?_ E1);obtain⟨B,nb,s⟩:=n;have out:∀a∈B,¬Ow own a:=λa ha z=>(s.sole ha).ne (a9 a z);refine⟨B,λa ha=>by have:=nb a ha;rwa[cN (out a ha)]at this,s.same (gU (λb z=>?_) EG) EG⟩;rcases z with z|z
 .exact .inr (a9 b z)
 .exact .inl (.inr z)
def rB(a:RE):RT:=λo q=>a o λx=>match frz x with|.bl b=>q b|_=>False
def tru:T->(Bool->Prop)->Prop
 |.bl b,q=>q b
 |.int i,q=>q (i != 0)
 |.non,q=>q false
 |.lst ts,q=>q (!ts.isEmpty)
 |.tup ts,q=>q (!ts.isEmpty)
 |_,_=>False
def aoM(a:RE):RT:=λo q=>a o λx=>tru (frz x) q
def ahY(a b:RT):RT:=λo q=>a o λc=>sw c (b o q) (q false)
def rOr(a b:RT):RT:=λo q=>a o λc=>sw c (q true) (b o q)
def aoX(a:RT):RT:=λo q=>a o λc=>q (!c)
def alB(a b:RE):RE:=λo q=>a o λx=>match frz x with|.bl c=>sw c (b o q) (q (.fz (.bl false)))|_=>False
def amy(a:RE):RE:=λo q=>a o λx=>match frz x with|.bl c=>q (.fz (.bl (!c)))|_=>False
def rIf(c:RT)(a b:RE):RE:=λo q=>c o λk=>sw k (a o q) (b o q)
def tQT.mk{r:RT}{R:Bool->Prop}{Q:Bool->Hp->Prop}(h:SR K own H σ o)(hr:r o R)(k:∀H' b,R b->z0 H H'->Q b H'):tQT K r σ H Q:=⟨own,o,R,h,hr,k⟩
def Rep.isEmpty{K:Frag}{F:Hp}{xs:Ε}{ts:zn}(h:bZ K F xs ts):xs.isEmpty=ts.isEmpty:=by cases h<;>rfl
def Jx{c:Bool}{p q p' q':Prop}(h:sw c p q)(i:p->p')(j:q->q'):if c=true then p' else q':=by
 cases c
 .exact aoj (j h)
 .exact aps (i h)
section
variable{X:Cx}{a b c:Expr}{ra rb rc:RE}{qa qb qc:RT}{pos:Pos}{rest:ze}
def b_(ho:GO X (compareOp op) g)(ha:QE X a ra)(hb:QE X b rb)(hm:behindInMarks op b=false:=by exact acd _):QT X (.Compare a [op] [b] pos) (rB (rOp g ra rb)) :=
 (aeW ho ha hb hm).imp λσ H Q ⟨own,o,R,h,hr,k⟩=>q2 (ra:=ra) (rb:=rb) (tQ.mk h hr λH1 v x q E1 r1=>by
  revert r1 q
  generalize frz x=t;intro q r1;cases r1<;>try exact q.elim
  exact⟨_,rfl,k _ _ q E1⟩)
def cY(ha:QE X a ra)(he:∀b5,isTrue a X.env b5=(do let v <- b5;standAt a.pos;holding [v] (truthy v)):=by exact λ_=>rfl):QT X a (aoM ra):=(abv ha he).imp λσ H Q ⟨own,o,R,h,hr,k⟩=>tQ.mk h hr λH1 v x q E1 r1=>by
 revert r1 q
 generalize frz x=t;intro q r1;cases t<;>try exact q.elim
 .cases r1;exact⟨false,rfl,k _ _ q E1⟩
 .cases r1;exact⟨_,rfl,k _ _ q E1⟩
 .cases r1;exact⟨_,rfl,k _ _ q E1⟩
 .obtain⟨p,xs,rfl,e,r⟩:=r1.tupI;exact⟨_,.inr (.inl ⟨xs,cZ.tup e,rfl⟩),by rw[Rep.isEmpty r];exact k _ _ q E1⟩
 .obtain⟨p,xs,rfl,e,r⟩:=r1.lstI;exact⟨_,.inl ⟨xs,.of (cT e).2,rfl⟩,by rw[Rep.isEmpty r];exact k _ _ q E1⟩
def dZ(ha:QT X a qa):QT X (.UnaryOp .Not a pos) (aoX qa):=(WM ha).imp λσ H Q hP=>by obtain⟨own,o,R,h,hr,k⟩:=hP;exact tQT.mk h hr λH1 b q E1=>k H1 _ q E1
def Qq(ha:QT X a qa):QW X (.BoolOp .And [a] pos) qa:=pw_and1 ha
def iC(ha:QT X a qa):QW X (.BoolOp .Or [a] pos) qa:=pw_or1 ha
def WY(ha:QT X a qa)(hb:QW X (.BoolOp .And (b::rest) pos) qb):QW X (.BoolOp .And (a::b::rest) pos) (ahY qa qb):=(pw_and ha hb).imp λσ H Q hP=>by obtain⟨own,o,R,h,hr,k⟩:=hP;exact tQT.mk h hr λH1 c q E1=>Jx q (λq=>tQT.mk (h.same E1) q λH2 d q E2=>k H2 d q (E1.trans E2)) λq=>k H1 _ q E1
def kJ(ha:QT X a qa)(hb:QW X (.BoolOp .Or (b::rest) pos) qb):QW X (.BoolOp .Or (a::b::rest) pos) (rOr qa qb):=(pw_or ha hb).imp λσ H Q hP=>by obtain⟨own,o,R,h,hr,k⟩:=hP;exact tQT.mk h hr λH1 c q E1=>Jx q (λq=>k H1 _ q E1) λq=>tQT.mk (h.same E1) q λH2 d q E2=>k H2 d q (E1.trans E2)
def QW.qt(h:QW X a qa):QT X a qa:=PW.pt h
def Ew{op}(h:QE X a ra):QE X (.BoolOp op [a] pos) ra:=aiM h
def Ey(ha:QE X a ra)(hb:QE X (.BoolOp .And (b::rest) pos) rb):QE X (.BoolOp .And (a::b::rest) pos) (alB ra rb):=(agW ha hb).imp λσ H Q ⟨own,o,R,h,hr,k⟩=>tQ.mk h hr λH1 v x q E1 r1=>by
 revert r1 q
 generalize frz x=t;intro q r1;cases r1<;>try exact q.elim
 exact⟨_,rfl,Jx q (λq=>⟨own,o,R,h.same E1,q,λH2 v x q E2 n=>k H2 v x q (E1.trans E2) (n.back E1)⟩) λq=>k H1 _ _ q E1 (NR.fz (.bl _))⟩
def adk(ha:QE X a ra):QE X (.UnaryOp .Not a pos) (amy ra):=(agT ha).imp λσ H Q ⟨own,o,R,h,hr,k⟩=>tQ.mk h hr λH1 v x q E1 r1=>by
 revert r1 q
 generalize frz x=t;intro q r1;cases r1<;>try exact q.elim
 exact⟨_,rfl,k H1 _ _ q E1 (NR.fz (.bl _))⟩
def NT{c:Expr}(hc:QT X c qc)(ha:QE X a ra)(hb:QE X b rb):QE X (.IfExp c a b pos) (rIf qc ra rb):=(adg hc ha hb).imp λσ H Q ⟨own,o,R,h,hr,k⟩=>tQT.mk h hr λH1 c q E1 =>
 Jx q (λq=>⟨own,o,R,h.same E1,q,λH2 v x q E2 n=>k H2 v x q (E1.trans E2) (n.back E1)⟩) λq=>⟨own,o,R,h.same E1,q,λH2 v x q E2 n=>k H2 v x q (E1.trans E2) (n.back E1)⟩
def rCh(g g':zz)(a b c:RE):RE:=λo q=>a o λx=>b o λy=>g (frz x) (frz y) λz=>match frz z with|.bl k=>sw k (c o λw=>g' (frz y) (frz w) q) (q (.fz (.bl false)))|_=>False
def q3{dA:CmpOp}{g':zz}(ho:GO X (compareOp op) g)(di:GO X (compareOp dA) g')(h:tQ X.K (rCh g g' ra rb rc) σ H Q):Xr (λx y H Q=>∃S t u R,(∀b,S b->H b≠none)/\Rep X.K (hd S H) x t/\Rep X.K (hd S H) y u/\g t u R/\∀H' v z,R z->z0 H H'->NR X.K S H H' v z->Q v H') (λx y H Q=>∃S t u R,(∀b,S b->H b≠none)/\Rep X.K (hd S H) x t/\Rep X.K (hd S H) y u/\g' t u R/\∀H' v z,R z->z0 H H'->NR X.K S H H' v z->Q v H') (tQ X.K ra) (tQ X.K rb) (tQ X.K rc) σ H Q:=by
 obtain⟨own,o,R,h,hr,k⟩:=h;refine tQ.mk h hr λH1 v x q E1 r1=>tQ.mk (h.same E1) q λH2 w y q2 E2 r2=>?_;have h2:=h.same (E1.trans E2);refine⟨Ow own,_,_,_,λb z=>(h2.sole z).ne,r1.same (bT E2),r2,q2,λH3 u z rz E3 n=>?_⟩;have mi:=n.rep λb z=>(h2.sole z).ne
 revert mi rz
 generalize frz z=t;intro rz mi;cases mi<;>try exact rz.elim
 have h3:=h2.same E3;refine⟨_,rfl,Jx rz (λq=>tQ.mk h3 q λH4 w' z q4 E4 r4=>⟨Ow own,_,_,R,λb z=>((h3.same E4).sole z).ne,r2.same (bT (E3.trans E4)),r4,q4,λH' u z rz E5 n=>k H' u z rz (E1.trans (E2.trans (E3.trans (E4.trans E5)))) (n.back (E1.trans (E2.trans (E3.trans E4))))⟩) λq=>k H3 _ _ q (E1.trans (E2.trans E3)) (NR.fz (.bl _))⟩
def Kg{dA:CmpOp}{g':zz}(ho:GO X (compareOp op) g)(di:GO X (compareOp dA) g')(ha:QE X a ra)(hb:QE X b rb)(hc:QE X c rc)(hm:lastMarks [op,dA] [b,c]=false:=by with_unfolding_all rfl):QE X (.Compare a [op,dA] [b,c] pos) (rCh g g' ra rb rc):=(aci ho di ha hb hc hm).imp λ_ _ _=>q3 ho di
def Lg{dA:CmpOp}{g':zz}(ho:GO X (compareOp op) g)(di:GO X (compareOp dA) g')(ha:QE X a ra)(hb:QE X b rb)(hc:QE X c rc)(hm:lastMarks [op,dA] [b,c]=false:=by with_unfolding_all rfl):QT X (.Compare a [op,dA] [b,c] pos) (rB (rCh g g' ra rb rc)) :=
 (abz ho di ha hb hc hm).imp λσ H Q ⟨own,o,R,h,hr,k⟩=>q3 (ra:=ra) (rb:=rb) (rc:=rc) ho di (tQ.mk h hr λH1 v x q E1 r1=>by
  revert r1 q
  generalize frz x=t;intro q r1;cases r1<;>try exact q.elim
  exact⟨_,rfl,k _ _ q E1⟩)
end
def nth{α:Type} : List α->Nat->Option α
 |[],_=>none
 |x::_,0=>some x
 |_::l,n+1=>nth l n
theorem sX{α:Type} : ∀(l:List α)(n:Nat),nth l n=l[n]?
 |[],_=>rfl
 |_::_,0=>rfl
 |_::l,n+1=>by simpa[nth]using sX l n
def ixT(ts:List α):Int->Option α
 |.ofNat n=>nth ts n
 |.negSucc n=>nth ts.reverse n
def XQ(ts:List α)(i:Int):ixT ts i=atI ts i:=by
 unfold ixT atI ixN;cases i with
 |ofNat n =>
  show nth ts n=_;rw[sX,ZY (show 0<=Int.ofNat n from X9 n)];by_cases h:n<ts.length
  .rw[ZY (by show(n:Int)<_;lia)];rfl
  .rw[ZZ (by show ¬(n:Int)<_;lia),aM (Nat.not_lt.mp h)];rfl
 |negSucc n =>
  show nth ts.reverse n=_;rw[sX,ZZ wo];by_cases h:n<ts.length
  .rw[ZY wo,List.getElem?_reverse h];show _=ts[_]?;rw[show(Int.negSucc n+(ts.length:Int)).toNat=ts.length-1-n by lia]
  .rw[ZZ wo,aM (by rw[List.length_reverse];exact Up h)];rfl
def bZ.ix{F:Hp}{i:Int}(h:bZ K F xs ts)(e:ixT ts i=some t):∃x,atI xs i=some x/\Rep K F x t:=by
 rw[XQ]at e;unfold atI at e ⊢;rw[h.len];cases j:ixN ts.length i with
 |none=>rw[j]at e;cases e
 |some n=>rw[j]at e;exact h.at_ e
def oT(x:Option α)(q:α->Prop):Prop:=match x with|some t=>q t|none=>False
def agj{x:Option α}{q:α->Prop}(h:oT x q):∃t,x=some t/\q t:=by
 cases x with
 |none=>exact h.elim
 |some t=>exact⟨t,rfl,h⟩
def gIx:zz
 |.tup ts,.int i,q=>oT (ixT ts i) λt=>q (.fz t)
 |.lst ts,.int i,q=>∃t,ixT ts i=some t/\q (.fz t)
 |.scr ts,.int i,q=>∃t,ixT ts i=some t/\q (.fz t)
 |.str s,.int i,q=>s.length<=sizeLine/\∃c,ixT s.cps.toList i=some c/\q (.fz (.str ⟨#[c]⟩))
 |_,_,_=>False
def gix:IxR X (λx y H Q=>∃S t u R,(∀b,S b->H b≠none)/\Rep X.K (hd S H) x t/\Rep X.K (hd S H) y u/\gIx t u R/\∀H' v z,R z->z0 H H'->NR X.K S H H' v z->Q v H'):=by
 refine(vo.or (ahQ.or ahu)).imp λx y H Q h=>?_;obtain⟨S,t,u,R,_,hx,hy,hg,k⟩:=h;cases u with
 |int i=>?_
 |_=>cases t<;>exact hg.elim
 cases hy;cases t with
 |any=>exact hg.elim
 |non=>exact hg.elim
 |bl _=>exact hg.elim
 |int _=>exact hg.elim
 |val _=>exact hg.elim
 |dct _ _=>exact hg.elim
 |ins _ _ _=>exact hg.elim
 |exc _ _ _=>exact hg.elim
 |str s=>?_
 |tup ts=>?_
 |lst ts=>?_
 |scr ts=>?_
 .cases hx;obtain⟨z,c,e,q⟩:=hg;rw[XQ]at e;exact .inr (.inr ⟨_,_,c,rfl,rfl,z,e,k H _ _ q (.refl _) (NR.fz (.str _))⟩)
 .obtain⟨p,xs,rfl,e,r⟩:=hx.tupI;obtain⟨t,j,q⟩:=agj hg;obtain⟨v,e',r'⟩:=r.ix j;exact .inr (.inl ⟨p,xs,i,v,rfl,rfl,cZ.tup e,e',k H _ _ q (.refl _) (NR.fz r')⟩)
 .obtain⟨p,xs,rfl,e,r⟩:=hx.lstI;obtain⟨t,j,q⟩:=hg;obtain⟨v,e',r'⟩:=r.ix j;exact .inl ⟨p,xs,_,v,rfl,rfl,.of (cT e).2,e',k H _ _ q (.refl _) (NR.fz r')⟩
 .obtain⟨p,xs,rfl,e,r⟩:=hx.scrI;obtain⟨t,j,q⟩:=hg;obtain⟨v,e',r'⟩:=r.ix j;exact .inl ⟨p,xs,_,v,rfl,rfl,cZ.seq e,e',k H _ _ q (.refl _) (NR.fz r')⟩
def bJ(ha:QE X a ra)(hb:QE X b rb)(hs:pH b:=by exact λ_ _=>rfl):QE X (.Subscript a b pos) (rOp gIx ra rb):=(Jk gix ha hb hs).imp λ_ _ _=>q2
abbrev RO:=zC->(xz->Prop)->Prop
def tQO(K:Frag)(r:RO):TO:=λσ H Q=>∃own o R,SR K own H σ o/\r o R/\∀H' b,R b->z0 H H'->Q b H'
def QO(X:Cx)(e:Option Expr)(r:RO):Prop:=PO X e (tQO X.K r)
def apq:RO:=λ_ q=>q none
def amF(a:RE):RO:=λo q=>a o λx=>match frz x with|.int i=>q (some i)|_=>False
def PO.imp{e:Option Expr}{t t':TO}(h:PO X e t)(i:∀σ H Q,t' σ H Q->t σ H Q):PO X e t':=λaa s σ H Q I q=>h aa s σ H Q I (i σ H Q q)
def nR:QO X none apq:=aeb.imp λσ H Q hP=>by obtain⟨own,o,R,h,hr,k⟩:=hP;exact k H _ hr (.refl _)
def eU(h:QE X e re):QO X (some e) (amF re):=(afV h).imp λσ H Q ⟨own,o,R,h,hr,k⟩=>tQ.mk h hr λH1 v x q E1 r1=>by
 revert r1 q
 generalize frz x=t;intro q r1;cases r1<;>try exact q.elim
 exact⟨_,rfl,k _ _ q E1⟩
def fG(xs:List α)(lo hi:xz):List α:=(xs.drop (HT.sIx xs.length 0 lo)).take (HT.sIx xs.length xs.length hi-HT.sIx xs.length 0 lo)
def bZ.cut{F:Hp}(h:bZ K F xs ts)(lo hi:xz):bZ K F (aaF xs lo hi) (fG ts lo hi):=by
 unfold aaF fG;rw[h.len];exact(h.drop _).take _
def gSl:T->xz->xz->(OT->Prop)->Prop
 |.lst ts,lo,hi,q=>q (.l1 (fG ts lo hi))
 |.scr ts,lo,hi,q=>q (.l1 (fG ts lo hi))
 |.str s,lo,hi,q=>s.length<=sizeLine/\q (.fz (.str (GZ s lo hi)))
 |_,_,_,_=>False
def rSl(a:RE)(lo hi:RO):RE:=λo q=>a o λx=>lo o λl=>hi o λu=>gSl (frz x) l u q
def fM{rl rh:RO}(he:QE X e re)(hl:QO X lo rl)(hu:QO X hi rh):QE X (.Subscript e (.Slice lo hi none p2) pos) (rSl re rl rh):=(abh (aeC.or ahw) he hl hu).imp λσ H Q ⟨own,o,R,h,hr,k⟩ =>
 tQ.mk h hr λH1 v x q E1 r1=>⟨own,o,_,h.same E1,q,λH2 l q E2=>⟨own,o,_,(h.same E1).same E2,q,λH3 u q E3=>by
  have E:=E1.trans (E2.trans E3);have r1:=r1.same (bT (E2.trans E3))
  revert r1 q
  generalize frz x=t;intro q r1;cases t<;>try exact q.elim
  .cases r1;exact .inr ⟨_,rfl,q.1,k _ _ _ q.2 E (NR.fz (.str _))⟩
  .obtain⟨p,xs,rfl,e,r⟩:=r1.lstI;exact .inl ⟨p,xs,rfl,.of (cT e).2,λa ha=>k _ _ _ q (E.trans (z0.upd ha)) ((xV (r.cut l u) (z0.upd ha) ha bW).back E)⟩
  .obtain⟨p,xs,rfl,e,r⟩:=r1.scrI;exact .inl ⟨p,xs,rfl,cZ.seq e,λa ha=>k _ _ _ q (E.trans (z0.upd ha)) ((xV (r.cut l u) (z0.upd ha) ha bW).back E)⟩⟩⟩
section
variable{X:Cx}{e:Expr}{es:ze}{r:RA}{pos:Pos}
def akG(r:RA):RE:=λo q=>r o λts=>q (.fz (.tup ts))
def ajj(r:RA):RE:=λo q=>r o λts=>q (.l1 ts)
def dN(h:QA X es r)(hz:es.length<=sizeLine:=by decide):QE X (.Tuple es k pos) (akG r):=(aix h).imp λσ H Q ⟨own,o,R,h,hr,k⟩=>tQA.mk h hr λH1 vs ts q ln E1 r1 =>
 ⟨by rw[r1.len,ln];exact hz,λp hp=>k _ _ _ q (E1.trans (z0.upd hp)) (NR.fz (.tup (.of (by rw[cN λz=>(h.sole z).ne (E1.free hp)];exact bW)) (r1.same (bT (z0.upd hp)))))⟩
def cF(h:QA X es r)(hz:es.length<=sizeLine:=by decide):QE X (.List es pos) (ajj r):=(XH h).imp λσ H Q ⟨own,o,R,h,hr,k⟩=>tQA.mk h hr λH1 vs ts q ln E1 r1 =>
 ⟨by rw[r1.len,ln];exact hz,λp hp=>k _ _ _ q (E1.trans (z0.upd hp)) ((xV r1 (z0.upd hp) hp bW).back E1)⟩
def GC(X:Cx)(f:Value)(g:ST):Prop:=ig X f λxs H Q=>∃S ts R,(∀b,S b->H b≠none)/\bZ X.K (hd S H) xs ts/\g ts R/\∀H' v z,R z->z0 H H'->NR X.K S H H' v z->Q v H'
variable{x:Str}{p:Pos}{id Ty:String}{g:ST}
def bM(hc:GC X (.builtin id) g)(hm:X.mg x=none)(hv:bootBuiltins x=some (.builtin id))(ha:QA X (e::es) r)(hg:Gl X x:=by rfl)(hn:x≠"__name__":=by decide)(bo:qk x:=by decide)
 (he:qo X e es:=by rfl)(aE:qh X pos es:=by rfl):QE X (.Call (.Name x p) (e::es) [] pos) (acU g r) :=
 (uc hc hg hm hv ha hn bo he aE).imp λσ H Q hP=>by obtain⟨own,o,R,h,hr,k⟩:=hP;exact tQA.mk h hr λH1 vs ts q _ E1 r1=>⟨Ow own,ts,R,λb z=>((h.same E1).sole z).ne,r1,q,λH' v z rz E n=>k H' v z rz (E1.trans E) (n.back E1)⟩
def lQ(hc:GC X (.type Ty) g)(hm:X.mg x=none)(hv:bootBuiltins x=some (.type Ty))(ha:QA X (e::es) r)(hg:Gl X x:=by rfl)(hn:x≠"__name__":=by decide)(bo:qk x:=by decide)
 (he:qo X e es:=by rfl)(aE:qh X pos es:=by rfl):QE X (.Call (.Name x p) (e::es) [] pos) (acU g r) :=
 (Nj hc hg hm hv ha hn bo he aE).imp λσ H Q hP=>by obtain⟨own,o,R,h,hr,k⟩:=hP;exact tQA.mk h hr λH1 vs ts q _ E1 r1=>⟨Ow own,ts,R,λb z=>((h.same E1).sole z).ne,r1,q,λH' v z rz E n=>k H' v z rz (E1.trans E) (n.back E1)⟩
def bZ.one{F:Hp}(h:bZ K F xs [t]):∃x,xs=[x]/\Rep K F x t:=by
 cases h with
 |cons a b=>cases b;exact⟨_,rfl,a⟩
def bZ.two{F:Hp}{u:T}(h:bZ K F xs [t,u]):∃x y,xs=[x,y]/\Rep K F x t/\Rep K F y u:=by
 cases h with
 |cons a b =>
  obtain⟨y,rfl,c⟩:=b.one;exact⟨_,y,rfl,a,c⟩
def g1(g:T->(OT->Prop)->Prop):ST:=λts q=>match ts with|[t]=>g t q|_=>False
def GC.one{f:Value}{g:T->(OT->Prop)->Prop}{r:Ε->Hp->VK->Prop}(h:ig X f r)(i:∀S t x H Q R,Rep X.K (hd S H) x t->g t R->(∀H' v z,R z->z0 H H'->NR X.K S H H' v z->Q v H')->r [x] H Q):GC X f (g1 g):=h.imp λxs H Q hP=>by
 obtain⟨S,ts,R,_,rs,hg,k⟩:=hP
 match ts,hg with
 |[t],hg =>
  obtain⟨x,rfl,rx⟩:=rs.one;exact i S t x H Q R rx hg k
def aoi:T->(OT->Prop)->Prop
 |.lst ts,q=>q (.fz (.int ts.length))
 |.tup ts,q=>q (.fz (.int ts.length))
 |.scr ts,q=>q (.fz (.int ts.length))
 |_,_=>False
def cI:GC X (.builtin "len") (g1 aoi):=.one Q8 λS t x H Q R rx hg k=>by
 cases t<;>try exact hg.elim
 .obtain⟨p,xs,rfl,e,r⟩:=rx.tupI;exact⟨p,xs,rfl,.inr (cZ.tup e),k H _ _ hg (.refl _) (NR.fz (by rw[r.len];exact .int _))⟩
 .obtain⟨p,xs,rfl,e,r⟩:=rx.lstI;exact⟨p,xs,rfl,.inl (.of (cT e).2),k H _ _ hg (.refl _) (NR.fz (by rw[r.len];exact .int _))⟩
 .obtain⟨p,xs,rfl,e,r⟩:=rx.scrI;exact⟨p,xs,rfl,.inl (cZ.seq e),k H _ _ hg (.refl _) (NR.fz (by rw[r.len];exact .int _))⟩
def aoe:T->(OT->Prop)->Prop
 |.str s,q=>s.length<=sizeLine/\q (.fz (.int s.length))
 |_,_=>False
def aoS:T->(OT->Prop)->Prop
 |.dct ks _,q=>q (.fz (.int ks.length))
 |_,_=>False
def aaH:ig X (.builtin "len") (λxs H Q=>∃p kvs,xs=[.ref p]/\Rd H p (.dK kvs)/\Q (.int kvs.length) H):=by
 intro aa s σ H xs us Q I r h;obtain⟨p,kvs,rfl,hp,q⟩:=h;obtain⟨u,rfl,rx⟩:=vals1 r;cases rx;have hok:kvs.length<=sizeLine/\(p==sysModules)=false/\∃vs,KV kvs vs/\s.heap.DictOf (gG X.prog X.w) p vs:=by
  rcases hp with hp|⟨o,hp⟩
  .exact I.hok p _ hp
  .exact(I.hok p _ hp).2
 obtain⟨hz,hS,vs,rr,m⟩:=hok;have hl:=yC;have be:kvs.length=vs.length:=rr.length;exact call_len_dict hS m wo ⟨.int kvs.length,H,I.tok _,⟨_,by rw[be]⟩,q⟩
def Yh:GC X (.builtin "len") (g1 aoS):=.one aaH λS t x H Q R rx hg k=>by
 cases t<;>try exact hg.elim
 obtain⟨p,xs,rfl,e,l,r⟩:=rx.dctI;exact⟨p,_,rfl,cZ.rd e,k H _ _ hg (.refl _) (NR.fz (by rw[W1,l,VU];exact .int _))⟩
def ao3:T->(OT->Prop)->Prop
 |.int i,q=>q (.fz (.int i.natAbs))
 |_,_=>False
def K4:GC X (.builtin "abs") (g1 ao3):=.one abm λS t x H Q R rx hg k=>by
 cases t<;>try exact hg.elim
 cases rx;exact⟨_,rfl,k H _ _ hg (.refl _) (NR.fz (by rw[ag3];exact .int _))⟩
theorem bZ.ints{K:Frag}{F:Hp} : ∀{xs:Ε}{ns:xy},bZ K F xs (ns.map T.int)->xs=ns.map V.int
 |_,[],.nil=>rfl
 |_,n::ns,.cons a b=>by cases a;rw[bZ.ints b];rfl
theorem bZ.bls{K:Frag}{F:Hp} : ∀{xs:Ε}{ns:xk},bZ K F xs (ns.map T.bl)->xs=ns.map V.bl
 |_,[],.nil=>rfl
 |_,n::ns,.cons a b=>by cases a;rw[bZ.bls b];rfl
theorem E_{K:Frag}{F:Hp} : ∀(ns:xy),bZ K F (ns.map V.int) (ns.map T.int)
 |[]=>.nil
 |_::ns=>.cons (.int _) (E_ ns)
def aoq:T->(OT->Prop)->Prop
 |.lst ts,q=>∃ns:xy,ts=ns.map T.int/\q (.fz (.int ns.sum))
 |_,_=>False
def acW(hc:X.calm=true):GC X (.builtin "sum") (g1 aoq):=.one (ZG hc) λS t x H Q R rx hg k=>by
 cases t<;>try exact hg.elim
 obtain⟨p,xs,rfl,e,r⟩:=rx.lstI;obtain⟨ns,rfl,q⟩:=hg;exact⟨p,ns,rfl,(r.ints ▸ (cT e).2),k H _ _ q (.refl _) (NR.fz (.int _))⟩
def anf(f:xk->Bool):T->(OT->Prop)->Prop
 |.lst ts,q=>∃bs:xk,ts=bs.map T.bl/\q (.fz (.bl (f bs)))
 |_,_=>False
def aa4(hc:X.calm=true):GC X (.builtin "all") (g1 (anf λbs=>bs.all λb=>b)):=.one (ZD hc) λS t x H Q R rx hg k=>by
 cases t<;>try exact hg.elim
 obtain⟨p,xs,rfl,e,r⟩:=rx.lstI;obtain⟨ns,rfl,q⟩:=hg;exact⟨p,ns,rfl,(r.bls ▸ (cT e).2),k H _ _ q (.refl _) (NR.fz (.bl _))⟩
def Xd(hc:X.calm=true):GC X (.builtin "any") (g1 (anf λbs=>bs.any λb=>b)):=.one (aaw hc) λS t x H Q R rx hg k=>by
 cases t<;>try exact hg.elim
 obtain⟨p,xs,rfl,e,r⟩:=rx.lstI;obtain⟨ns,rfl,q⟩:=hg;exact⟨p,ns,rfl,(r.bls ▸ (cT e).2),k H _ _ q (.refl _) (NR.fz (.bl _))⟩
def aor:T->(OT->Prop)->Prop
 |.lst ts,q=>∃ns:xy,ts=ns.map T.int/\ns.length<64/\∀ms:xy,ms.Perm ns->ms.Pairwise (· <= ·)->q (.l1 (ms.map T.int))
 |_,_=>False
def ZX:GC X (.builtin "sorted") (g1 aor):=.one Zn λS t x H Q R rx hg k=>by
 cases t<;>try exact hg.elim
 obtain⟨p,xs,rfl,e,r⟩:=rx.lstI;obtain⟨ns,rfl,l,q⟩:=hg;exact⟨p,ns,rfl,(r.ints ▸ (cT e).2),l,λms a ha m1 m2=>k _ _ _ (q ms m1 m2) (z0.upd ha) (xV (E_ ms) (z0.upd ha) ha bW)⟩
def amM:T->(OT->Prop)->Prop
 |.lst ts,q=>q (.l1 ts)
 |_,_=>False
def zA:GC X (.type "list") (g1 amM):=.one Kz λS t x H Q R rx hg k=>by
 cases t<;>try exact hg.elim
 obtain⟨p,xs,rfl,e,r⟩:=rx.lstI;exact⟨p,xs,rfl,(cT e).2,λa ha=>k _ _ _ hg (z0.upd ha) (xV r (z0.upd ha) ha bW)⟩
def aoW:T->(OT->Prop)->Prop
 |.int i,q=>q (.fz (.int i))
 |.bl b,q=>q (.fz (.int (if b then 1 else 0)))
 |_,_=>False
def aiz:GC X (.type "int") (g1 aoW):=.one Zx λS t x H Q R rx hg k=>by
 cases t<;>try exact hg.elim
 .cases rx;exact .inr ⟨_,rfl,k H _ _ hg (.refl _) (NR.fz (.int _))⟩
 .cases rx;exact .inl ⟨_,rfl,k H _ _ hg (.refl _) (NR.fz (.int _))⟩
inductive Knd where
 |int|bool|str|list|tuple
def Knd.s:Knd->String
 |.int=>"int"
 |.bool=>"bool"
 |.str=>"str"
 |.list=>"list"
 |.tuple=>"tuple"
def isK:Knd->T->xS
 |.int,.int _=>some true
 |.int,.bl _=>some true
 |.bool,.bl _=>some true
 |.str,.str _=>some true
 |.list,.lst _=>some true
 |.tuple,.tup _=>some true
 |_,.any=>none
 |_,.val _=>none
 |_,.scr _=>none
 |_,.ins _ _ _=>none
 |_,.exc _ _ _=>none
 |_,.dct _ _=>none
 |_,_=>some false
def aiI(kd:Knd):GC X (.builtin "isinstance") (λts q=>match ts with|[t,.val v]=>v=.ty kd.s/\oT (isK kd t) λb=>q (.fz (.bl b))|_=>False):=by
 intro aa s σ H xs us Q I rs h;obtain⟨S,ts,R,_,rp,hg,k⟩:=h
 match ts,hg with
 |[t,.val v],hg =>
  obtain⟨x,y,rfl,rx,ry⟩:=rp.two;cases ry;obtain⟨rfl,hg⟩:=hg;obtain⟨b,j,q⟩:=agj hg;have hk:kd.s∈["bool","int","str","list","tuple","dict"]:=by cases kd<;>decide
  cases t with
  |tup ts =>
   obtain⟨p,ys,rfl,e,r⟩:=rx.tupI;have eb:b=R_ "tuple" kd.s:=by cases kd<;>cases j<;>decide
   exact Td aa s σ H _ us Q I rs ⟨p,kd.s,ys,rfl,hk,cZ.tup e,k H _ _ q (.refl _) (NR.fz (eb ▸ .bl _))⟩
  |lst ts =>
   obtain⟨p,ys,rfl,e,r⟩:=rx.lstI;have eb:b=R_ "list" kd.s:=by cases kd<;>cases j<;>decide
   exact wW aa s σ H _ us Q I rs ⟨_,kd.s,"list",rfl,hk,by show(match H p with|some (.lst _)=>some "list" |some (.tup _)=>some "tuple" |some (.dK _)=>some "dict" |_=>none)=_;rw[(cT e).2],k H _ _ q (.refl _) (NR.fz (eb ▸ .bl _))⟩
  |non =>
   cases rx;have eb:b=R_ "NoneType" kd.s:=by cases kd<;>cases j<;>decide
   exact wW aa s σ H _ us Q I rs ⟨_,kd.s,"NoneType",rfl,hk,rfl,k H _ _ q (.refl _) (NR.fz (eb ▸ .bl _))⟩
  |bl c =>
   cases rx;have eb:b=R_ "bool" kd.s:=by cases kd<;>cases j<;>decide
   exact wW aa s σ H _ us Q I rs ⟨_,kd.s,"bool",rfl,hk,rfl,k H _ _ q (.refl _) (NR.fz (eb ▸ .bl _))⟩
  |int i =>
   cases rx;have eb:b=R_ "int" kd.s:=by cases kd<;>cases j<;>decide
   exact wW aa s σ H _ us Q I rs ⟨_,kd.s,"int",rfl,hk,rfl,k H _ _ q (.refl _) (NR.fz (eb ▸ .bl _))⟩
  |str c =>
   cases rx;have eb:b=R_ "str" kd.s:=by cases kd<;>cases j<;>decide
   exact wW aa s σ H _ us Q I rs ⟨_,kd.s,"str",rfl,hk,rfl,k H _ _ q (.refl _) (NR.fz (eb ▸ .bl _))⟩
  |_=>cases kd<;>cases j
def apb(kd:Knd)(a:RE):RE:=λo q=>a o λx=>oT (isK kd (frz x)) λb=>q (.fz (.bl b))
def nu(kd:Knd){y:Str}(ha:QE X a ra)(hm:X.mg "isinstance"=none)(k4:X.mg y=none)(mT:bootBuiltins y=some (.type kd.s))(hg2:Gl X y:=by rfl)(hg:Gl X "isinstance":=by rfl)(i5:y≠"__name__":=by decide)(oC:qk y:=by decide)
 (he:starEach (a::[.Name y p2]) X.env=(false,eval a X.env)::starEach [.Name y p2] X.env:=by rfl):QE X (.Call (.Name "isinstance" p) [a,.Name y p2] [] pos) (apb kd ra) :=
 (uc (aiI kd) hg hm boot_isinstance (cQ ha (cQ (afI (v:=.ty kd.s) hg2 k4 mT rfl i5 oC) jB) he) wp wp he).imp λσ H Q ⟨own,o,R,h,hr,k⟩=>tQ.mk h hr λH1 v x q E1 r1 =>
  ⟨Ow own,[frz x,.val (.ty kd.s)],R,λb z=>((h.same E1).sole z).ne,.cons r1 (.cons (.val _) .nil),⟨rfl,q⟩,λH' v z rz E n=>k H' v z rz (E1.trans E) (n.back E1)⟩
end
structure DT where
 nx:zC->Prop
 rt:OT->Prop
 bk:zC->Prop:=λ_=>False
 ct:zC->Prop:=λ_=>False
 xc:Addr->Θ->zn->Prop:=λ_ _ _=>False
abbrev RS:=DT->zC->Prop
def zx(X:Cx):XK:=λC d H'=>(∀aa σ H s a s' B,Inv X aa σ H s->Fly X.prog X.w X.stack H s a C H' s' B d->X.xe (.ref a) s') /\
 ∀aa σ H s a c,C=.ref c->Inv X aa σ H s->H a=some (XN a c d)->X.s₀.heap.objs.size<=a->out H a=H'->X.xe (.ref a) s
structure Lnk(K:Frag)(Z:XK)(F:Hp)(E:DT)(D:Ends):Prop where
 nx:∀own H σ o,E.nx o->z0 F (hd (Ow own) H)->SR K own H σ o->D.nx σ H
 rt:∀S H v x B,E.rt x->z0 F (hd S H)->Slo K (hd S H) H (some v) B x->(∀a∈B,S a)->D.rt v H
 bk:∀own H σ o,E.bk o->z0 F (hd (Ow own) H)->SR K own H σ o->D.bk σ H
 ct:∀own H σ o,E.ct o->z0 F (hd (Ow own) H)->SR K own H σ o->D.ct σ H
 xc:∀H C d ks vs ts,E.xc C ks ts->z0 F H->H d=some (.xd (ks.zip vs))->bZ K H vs ts->Z (.ref C) (some d) H
variable{E:DT}{st:Stmt}{b a:RS}{js:xB}{ay ag af aw:Pos}{D:Addr}{i:Nat}{ys:Ε}
def Lnk.step{Z:XK}{F F':Hp}{D:Ends}(h:Lnk K Z F E D)(S:z0 F F'):Lnk K Z F' E D :=
 ⟨λown H σ o e s=>h.nx own H σ o e (S.trans s),λT H v x B e s=>h.rt T H v x B e (S.trans s),λown H σ o e s=>h.bk own H σ o e (S.trans s),λown H σ o e s=>h.ct own H σ o e (S.trans s),λH C d ks vs ts e s=>h.xc H C d ks vs ts e (S.trans s)⟩
def tQS(X:Cx)(r:RS):TS:=λD σ H=>∃own o E,SR X.K own H σ o/\r E o/\Lnk X.K (zx X) (hd (Ow own) H) E D
def QS(X:Cx)(st:Stmt)(r:RS):Prop:=PS X st (tQS X r)
def QSs(X:Cx)(st:xB)(r:RS):Prop:=PSs X st (tQS X r)
def PS.imp{t t':TS}(h:PS X st t)(i:∀D σ H,t' D σ H->t D σ H):PS X st t':=λaa s σ H D I q=>h aa s σ H D I (i D σ H q)
def PSs.imp{st:xB}{t t':TS}(h:PSs X st t)(i:∀D σ H,t' D σ H->t D σ H):PSs X st t':=λaa s σ H D I q=>h aa s σ H D I (i D σ H q)
def anx:RS:=λE o=>E.nx o
def h_(a b:RS):RS:=λE o=>a { E with nx:=b E } o
def agS(i:Nat)(a:RE):RS:=λE o=>a o λx=>E.nx (o.set i (.fz (frz x)))
def ahH(i:Nat)(a:RE):RS:=λE o=>a o λx=>E.nx (o.set i x)
def alh(a:RE):RS:=λE o=>a o λ_=>E.nx o
def apr(a:RE):RS:=λE o=>a o E.rt
def ags(i:Nat):RS:=λE o=>match slot o i with|.und=>False|x=>E.rt x
def ai2(c:RT)(a b:RS):RS:=λE o=>c o λk=>sw k (a E o) (b E o)
def ahm:RS:=λ_ _=>False
def alf(i:Nat)(a:RS):RS:=λE o=>match slot o i with|.und=>False|x=>a E (o.set i (.fz (frz x)))
def SR.putA(h:SR K own H σ o)(E:z0 H H'){x:OT}(n:NR K (Ow own) H H' v x)(i:Nat):∃am,SR K am H' (σ.set i (some v)) (o.set i x)/\z0 (hd (Ow own) H) (hd (Ow am) H'):=by
 by_cases hi:i<o.length
 .exact h.put E n hi
 .rw[Q4 (Nat.not_lt.mp hi),Q4 (h.len ▸ Nat.not_lt.mp hi)];exact⟨own,h.same E,bT E⟩
def NR.frz{S:Addr->Prop}{v:V}{x:OT}(n:NR K S H H' v x)(hs:∀b,S b->H b≠none):NR K S H H' v (.fz (L2.frz x)):=NR.fz (n.rep hs)
def Slo.val{F:Hp}{v:xL}{A:Φ}{x:OT}(h:Slo K F H v A x)(n:x≠.und):∃u,v=some u:=by
 cases x with
 |und=>exact absurd rfl n
 |fz t=>exact⟨_,h.2.choose_spec.1⟩
 |l1 ts=>obtain⟨a,xs,e,_⟩:=h;exact⟨_,e⟩
 |l2 ts=>obtain⟨a,xs,e,_⟩:=h;exact⟨_,e⟩
 |d1 ks ts=>obtain⟨a,xs,e,_⟩:=h;exact⟨_,e⟩
 |ob a d C ks ts=>obtain⟨xs,e,_⟩:=h;exact⟨_,e⟩
 |la a ts=>obtain⟨xs,e,_⟩:=h;exact⟨_,e⟩
def SR.val(h:SR K own H σ o){i:Nat}{x:OT}(e:slot o i=x)(n:x≠.und):∃u,σ[i]?=some (some u)/\Slo K (hd (Ow own) H) H (some u) (own i) x:=by
 have s:=h.sl i x (gY e n);obtain⟨u,hu⟩:=s.val n;rw[hu]at s;refine⟨u,?_,s⟩;cases z:σ[i]? with
 |none=>rw[z]at hu;cases hu
 |some w=>rw[z]at hu;exact ZH some hu
def bR:QSs X [] anx:=Pr.imp λD σ H hP=>by obtain⟨own,o,E,h,hr,L⟩:=hP;exact L.nx own H σ o hr (.refl _) h
def apc{D:Ends}(h:tQS X (h_ a b) D σ H):aeS (tQS X a) (tQS X b) D σ H:=by
 obtain⟨own,o,E,h,hr,L⟩:=h;exact⟨own,o,_,h,hr,λam H' σ' o' q S h'=>⟨am,o',E,h',q,L.step S⟩,L.rt,L.bk,L.ct,L.xc⟩
def bF(h1:QS X st a)(h2:QSs X js b):QSs X (st::js) (h_ a b):=(wJ h1 h2).imp λ_ _ _=>apc
def bH(h:QS X st a):QSs X [st] a:=uE h
def bQ(i:Nat)(he:QE X e re)(hN:X.N.Nodup:=by assumption)(hx:Loc X.env.scope x:=by first|exact .inl rfl|exact .inr rfl)(hi:X.N[i]?=some x:=by rfl)(hs:swapsWith e (some (.Name x ay)) pos.line X.env=pure false:=by rfl)(hf:qi X x:=by first|exact .inl rfl|exact .inr rfl|assumption) :
  QS X (.Assign [.Name x ay] e pos) (agS i re):=(Em hN hi hx he hs hf).imp λD σ H ⟨own,o,E,h,hr,L⟩=>⟨own,o,_,h,hr,λH' v y q S n=>by
 obtain⟨am,h',S'⟩:=h.putA S (n.frz λb z=>(h.sole z).ne) i;exact L.nx am H' _ _ q S' h'⟩
def iu(i:Nat)(he:QE X e re)(hN:X.N.Nodup:=by assumption)(hx:Loc X.env.scope x:=by first|exact .inl rfl|exact .inr rfl)(hi:X.N[i]?=some x:=by rfl)(hs:swapsWith e (some (.Name x ay)) pos.line X.env=pure false:=by rfl)(hf:qi X x:=by first|exact .inl rfl|exact .inr rfl|assumption) :
  QS X (.Assign [.Name x ay] e pos) (ahH i re):=(Em hN hi hx he hs hf).imp λD σ H ⟨own,o,E,h,hr,L⟩=>⟨own,o,_,h,hr,λH' v y q S n=>by
 obtain⟨am,h',S'⟩:=h.putA S n i;exact L.nx am H' _ _ q S' h'⟩
def mJ(he:QE X e re)(hs:swapsWith e none pos.line X.env=pure false:=by rfl):QS X (.Expr e pos) (alh re):=(k_ he hs).imp λD σ H hP=>by obtain⟨own,o,E,h,hr,L⟩:=hP;exact⟨own,o,_,h,hr,λH' v y q S n=>L.nx own H' σ o q (bT S) (h.same S)⟩
def bO(he:QE X e re):QS X (.Return (some e) pos) (apr re):=(O8 he).imp λD σ H ⟨own,o,E,h,hr,L⟩=>⟨own,o,_,h,hr,λH' v y q S n=>by
 obtain⟨B,nb,s⟩:=n;exact L.rt _ H' v y B q (gU (λb z=>z.imp id (nb b)) S) s λa ha=>.inr ha⟩
def ji(i:Nat)(hN:X.N[i]?=some x:=by rfl)(hv:o7 X.env.scope x=true:=by rfl)(hd:qk x:=by decide)(aI:qf x:=by decide):QS X (.Return (some (.Name x p)) pos) (ags i):=(O8 (pv i hN hv hd aI)).imp λD σ H hP=>by
 obtain⟨own,o,E,h,hr,L⟩:=hP;have hr:E.rt (slot o i)/\slot o i≠.und:=by
  unfold ags at hr;cases e:slot o i<;>rw[e]at hr<;>first|exact hr.elim|exact⟨hr,λz=>by cases z⟩
 obtain⟨u,e,s⟩:=h.val rfl hr.2;exact⟨u,e,L.rt (Ow own) H u _ _ hr.1 (.refl _) s λa ha=>⟨i,ha⟩⟩
def cC{ss ts:xB}{qc:RT}(hc:QT X c qc)(ha:QSs X ss a)(hb:QSs X ts b):QS X (.If c ss ts pos) (ai2 qc a b):=(acF hc ha hb).imp λD σ H ⟨own,o,E,h,hr,L⟩=>tQT.mk h hr λH1 c q E1 =>
 Jx q (λq=>⟨own,o,E,h.same E1,q,L.step (bT E1)⟩) λq=>⟨own,o,E,h.same E1,q,L.step (bT E1)⟩
def gJ:QS X st ahm:=abW.imp λD σ H hP=>by obtain⟨own,o,E,h,hr,L⟩:=hP;exact hr
def Jh(i:Nat)(hs:QS X st a):QS X st (alf i a):=PS.imp hs λD σ H hP=>by
 obtain⟨own,o,E,h,hr,L⟩:=hP;have hr:a E (o.set i (.fz (frz (slot o i))))/\slot o i≠.und:=by
  unfold alf at hr;cases e:slot o i<;>rw[e]at hr<;>first|exact hr.elim|exact⟨hr,λz=>by cases z⟩
 obtain⟨u,e1,s⟩:=h.val rfl hr.2;obtain⟨am,h',S⟩:=h.frz (gY rfl hr.2) e1;exact⟨am,_,E,h',hr.1,L.step S⟩
def FJ{u:HO}(h:S D):hd S (upd H D u)=hd S H:=funext λb=>by
 by_cases z:S b
 .rw[o_ z,o_ z]
 .rw[cN z,cN z,bU λ(e:b=D)=>z (e.symm ▸ h)]
def asL:OT->Option (List T×(zn->OT))
 |.l1 ts=>some (ts,.l1)
 |.la a ts=>some (ts,.la a)
 |_=>none
def onL(x:OT)(k:zn->(zn->OT)->Prop):Prop:=match asL x with|some (ts,c)=>k ts c|none=>False
def Ep{x:OT}{k:zn->(zn->OT)->Prop}(h:onL x k):∃ts c,k ts c/\((x=.l1 ts/\c=.l1)\/∃a,x=.la a ts/\c=.la a):=by
 cases x with
 |l1 ts=>exact⟨ts,_,h,.inl ⟨rfl,rfl⟩⟩
 |la a ts=>exact⟨ts,_,h,.inr ⟨a,rfl,rfl⟩⟩
 |_=>exact h.elim
def apw(i:Nat)(a:RE):RS:=λE o=>onL (slot o i) λts c=>a o λy=>ts.length<sizeLine/\E.nx (o.set i (c (ts++[frz y])))
def SR.l1{K:Frag}{own:zk}{H:Hp}{σ:L2.St}{o:zC}(h:SR K own H σ o){i:Nat}{ts:zn}{c:zn->OT}(e:(slot o i=.l1 ts/\c=.l1)\/∃a,slot o i=.la a ts/\c=.la a):∃l xs,σ[i]?=some (some (.ref l))/\own i=[l]/\H l=some (.lst xs)/\bZ K (hd (Ow own) H) xs ts/\∀(H':Hp)(ys:Ε)us,H' l=some (.lst ys)->bZ K (hd (Ow own) H') ys us->Slo K (hd (Ow own) H') H' (some (.ref l)) [l] (c us):=by
 rcases e with⟨e,rfl⟩|⟨a,e,rfl⟩
 .obtain⟨u,e1,l,xs,e2,e3,e4,r⟩:=h.val e (by intro z;cases z);cases e2;exact⟨l,xs,e1,e3,e4,r,λH' ys us a b=>⟨l,ys,rfl,rfl,a,b⟩⟩
 .obtain⟨u,e1,xs,e2,e3,e4,r⟩:=h.val e (by intro z;cases z);cases e2;exact⟨a,xs,e1,e3,e4,r,λH' ys us a b=>⟨ys,rfl,rfl,a,b⟩⟩
def Kp{c:zn->OT}(e:(slot o i=.l1 ts/\c=.l1)\/∃a,slot o i=.la a ts/\c=.la a):∃x,o[i]?=some x:=by
 rcases e with⟨e,_⟩|⟨a,e,_⟩
 .exact⟨_,gY e (by intro z;cases z)⟩
 .exact⟨_,gY e (by intro z;cases z)⟩
def SR.chg1(h:SR K own H σ o){us:zn}{c:zn->OT}(e:∃x,o[i]?=some x){l:Addr}(eσ:σ[i]?=some (some (.ref l)))(eo:own i=[l])(sl:∀(H':Hp)(ys:Ε)us,H' l=some (.lst ys)->bZ K (hd (Ow own) H') ys us->Slo K (hd (Ow own) H') H' (some (.ref l)) [l] (c us))(r:bZ K (hd (Ow own) H) ys us):SR K own (upd H l (.lst ys)) σ (o.set i (c us))/\z0 (hd (Ow own) H) (hd (Ow own) (upd H l (.lst ys))):=by
 obtain⟨x,e⟩:=e;refine h.chg e (λb u hb e=>(bU λz=>hb (by rw[eo,z];simp)).trans e) ?_;rw[eσ,eo];exact sl _ ys us bW (by rw[FJ ⟨i,by rw[eo];simp⟩];exact r)
def rR(i:Nat)(he:QE X e re)(hN:X.N[i]?=some x:=by rfl)(hv:o7 X.env.scope x=true:=by rfl)(bn:qk x:=by decide)(aI:qf x:=by decide)
 (hb:attributeBase (.Name x p) "append" X.env (eval (.Name x p) X.env)=eval (.Name x p) X.env:=by rfl)
 (hf:qr X af e:=by rfl)
 (hl:zw ag af:=by rfl)(bu:qo X e []:=by rfl)(hp:qh X af []:=by rfl)
 (hs:swapsWith (.Call (.Attribute (.Name x p) "append" ag) [e] [] af) none pos.line X.env=pure false:=by rfl) :
  QS X (.Expr (.Call (.Attribute (.Name x p) "append" ag) [e] [] af) pos) (apw i re):=(k_ (Xz (pv i hN hv bn aI) (cQ he jB bu) hb hf hl bu hp) hs).imp λD σ H hP=>by
 obtain⟨own,o,E,h,hr,L⟩:=hP;obtain⟨ts,c,hr,es⟩:=Ep hr;obtain⟨l,xs,e1,e2,e3,r,sl⟩:=h.l1 es;refine⟨_,e1,l,xs,rfl,e3,tQ.mk h hr λH1 v y q E1 r1=>⟨v,xs,rfl,E1 _ _ e3,by rw[r.len];exact q.1,?_⟩⟩;obtain⟨h',S⟩:=(h.same E1).chg1 (Kp es) e1 e2 sl ((r.same (bT E1)).app (.cons r1 .nil));exact L.nx own _ σ _ q.2 ((bT E1).trans S) h'
def aok(i:Nat)(a b:RE):RS:=λE o=>onL (slot o i) λts c=>a o λy=>b o λk=>(match frz k with|.int j=>∃n,ixN ts.length j=some n/\E.nx (o.set i (c (ts.set n (frz y))))|_=>False)
def sW(i:Nat){k:Expr}{rk:RE}(he:QE X e re)(hk:QE X k rk)(hN:X.N[i]?=some x:=by rfl)(hv:o7 X.env.scope x=true:=by rfl)(bn:qk x:=by decide)(aI:qf x:=by decide)
 (ha:∀v,assign (.Subscript (.Name x p) k aw) X.env v=(do
   let ov <- holding [v] (eval (.Name x p) X.env)
   let iv <- holding [v,ov] (eval k X.env)
   standAt aw
   holding [v,ov,iv] (setItem ov iv v)
   release [v,ov,iv] []):=by intro _;rfl)
 (hs:swapsWithSole [.Subscript (.Name x p) k aw] e pos.line X.env=pure false:=by rfl)(hw:swappedStores [.Subscript (.Name x p) k aw] e X.env=pure none:=by rfl)
 (h1:(assignEach [.Subscript (.Name x p) k aw] X.env).map (·.2)=[assign (.Subscript (.Name x p) k aw) X.env]:=by rfl):QS X (.Assign [.Subscript (.Name x p) k aw] e pos) (aok i re rk):=(XD he (aa2 (pv i hN hv bn aI) hk set_list ha) hs hw h1).imp λD σ H hP=>by
 obtain⟨own,o,E,h,hr,L⟩:=hP;obtain⟨ts,c,hr,es⟩:=Ep hr;obtain⟨l,xs,e1,e2,e3,r,sl⟩:=h.l1 es;refine tQ.mk h hr λH1 v y q E1 r1=>⟨_,e1,tQ.mk (h.same E1) q λH2 w z q E2 r2=>?_⟩;have r1:=r1.same (bT E2)
 revert r2 q
 generalize frz z=t;intro q r2;cases t<;>try exact q.elim
 cases r2;obtain⟨n,en,q⟩:=q;have bP:=E1.trans E2;refine⟨l,xs,_,n,rfl,rfl,bP _ _ e3,by rw[r.len];exact en,?_⟩;obtain⟨h',S⟩:=(h.same bP).chg1 (Kp es) e1 e2 sl (bZ.set r1 n (r.same (bT bP)));exact L.nx own _ σ _ q ((bT bP).trans S) h'
def aop(i:Nat)(b:RE):RE:=λo q=>onL (slot o i) λts _=>b o λy=>(match frz y with|.int j=>∃t,ixT ts j=some t/\q (.fz t)|_=>False)
def vf(i:Nat){b:Expr}(hb:QE X b rb)(hN:X.N[i]?=some x:=by rfl)(hv:o7 X.env.scope x=true:=by rfl)(bn:qk x:=by decide)
 (aI:qf x:=by decide)(hs:pH b:=by exact λ_ _=>rfl):QE X (.Subscript (.Name x p) b pos) (aop i rb):=(Jk vo (pv i hN hv bn aI) hb hs).imp λσ H Q hP=>by
 obtain⟨own,o,R,h,hr,k⟩:=hP;obtain⟨ts,c,hr,es⟩:=Ep hr;obtain⟨a,xs,e1,e2,e3,r,sl⟩:=h.l1 es;refine⟨_,e1,tQ.mk h hr λH1 v y q E1 r1=>?_⟩
 revert r1 q
 generalize frz y=t;intro q r1;cases t<;>try exact q.elim
 cases r1;obtain⟨t,j,q⟩:=q;obtain⟨v,e',r'⟩:=r.ix j;exact⟨a,xs,_,v,rfl,rfl,.of (E1 _ _ e3),e',k H1 _ _ q E1 (NR.fz (r'.same (bT E1)))⟩
def agv(i:Nat)(f:Int->Int->Int)(a:RE):RS:=λE o=>match slot o i with|.fz (.int k)=>a o λy=>(match frz y with|.int j=>E.nx (o.set i (.fz (.int (f k j))))|_=>False)|_=>False
def acC(i:Nat){op:Operator}{f:Int->Int->Int}(ho:PIp X op (ipI f))(he:QE X e re)(hN:X.N.Nodup:=by assumption)(hx:Loc X.env.scope x:=by first|exact .inl rfl|exact .inr rfl)(hi:X.N[i]?=some x:=by rfl)(hf:qi X x:=by first|exact .inl rfl|exact .inr rfl|assumption):QS X (.AugAssign (.Name x ay) op e pos) (agv i f re):=(ahq hN hi hx he ho hf).imp λD σ H hP=>by
 obtain⟨own,o,E,h,hr,L⟩:=hP;unfold agv at hr;cases es:slot o i with
 |fz t =>
  rw[es]at hr;cases t<;>try exact hr.elim
  obtain⟨u,e1,r⟩:=h.get (gY es (by intro z;cases z));cases r;refine⟨_,e1,tQ.mk h hr λH1 v y q E1 r1=>?_⟩
  revert r1 q
  generalize frz y=t;intro q r1;cases t<;>try exact q.elim
  cases r1;refine⟨_,_,rfl,rfl,?_⟩;obtain⟨am,h',S⟩:=(h.same E1).putA (.refl _) (NR.fz (.int _)) i;exact L.nx am _ _ _ q ((bT E1).trans S) h'
 |_=>rw[es]at hr;exact hr.elim
def FQ(n:Nat)(own am:zk)(σ σ':L2.St):Prop:=(∀j,am j=own j\/(j<n/\am j=[]))/\σ'.length=σ.length/\∀j,n<=j->σ'[j]?=σ[j]?
def FQ.refl : FQ n own own σ σ:=⟨λ_=>.inl rfl,rfl,λ_ _=>rfl⟩
def FQ.trans{n:Nat}{own own1 bX:zk}{σ σ1 σ2:L2.St}(a:FQ n own own1 σ σ1)(b:FQ n own1 bX σ1 σ2):FQ n own bX σ σ2 :=
 ⟨λj=>(b.1 j).elim (λe=>(a.1 j).imp (λz=>e.trans z) λz=>⟨z.1,e.trans z.2⟩) .inr,b.2.1.trans a.2.1,λj hj=>(b.2.2 j hj).trans (a.2.2 j hj)⟩
def FQ.same{am:zk}{σ':L2.St}(a:FQ n own am σ σ') : z0 (hd (Ow own) H) (hd (Ow am) H):=gU (λb hP=>by obtain⟨j,z⟩:=hP;exact .inl ⟨j,(a.1 j).elim (λe=>e ▸ z) λe=>by rw[e.2]at z;cases z⟩) λ_ _ z=>z
abbrev qE:Type:=T->zC->(zC->Prop)->Prop
def tQG(K:Frag)(n:Nat)(g:qE):TG:=λv σ H Q=>∃own o t R,SR K own H σ o/\Rep K (hd (Ow own) H) v t/\g t o R/\∀am σ' o',R o'->FQ n own am σ σ'->SR K am H σ' o'->Q σ' H
def QG(X:Cx)(n:Nat)(tg:Expr)(g:qE):Prop:=PG X tg (tQG X.K n g)
abbrev qA:Type:=zn->zC->(zC->Prop)->Prop
def QGs(X:Cx)(n:Nat)(tg:ze)(g:qA):Prop:=PGs X tg λv σ H Q=>∃own o t R,SR X.K own H σ o/\bZ X.K (hd (Ow own) H) v t/\g t o R/\∀am σ' o',R o'->FQ n own am σ σ'->SR X.K am H σ' o'->Q σ' H
def PGs.imp{tg:ze}{t t':TGs}(h:PGs X tg t)(i:∀v σ H Q,t' v σ H Q->t v σ H Q):PGs X tg t':=λaa s σ H v u Q I r q=>h aa s σ H v u Q I r (i _ _ _ _ q)
def hName(i:Nat):qE:=λt o q=>q (o.set i (.fz t))
def aoR:qA:=λts o q=>match ts with|[]=>q o|_=>False
def amA(g:qE)(gs:qA):qA:=λts o q=>match ts with|t::ts=>g t o λo'=>gs ts o' q|_=>False
def aoy(n:Nat)(gs:qA):qE:=λt o q=>match t with|.tup ts=>ts.length=n/\gs ts o q|_=>False
def SR.setF(h:SR K own H σ o)(r:Rep K (hd (Ow own) H) v t)(hi:i<n):∃am,SR K am H (σ.set i (some v)) (o.set i (.fz t))/\FQ n own am σ (σ.set i (some v)):=by
 have le:z0 (hd (Ow own) H) (hd (Ow (own1 own i [])) H):=gU (λb z=>.inl (z.of1.elim id λy=>(nomatch y))) λ_ _ z=>z;have go:FQ n own (own1 own i []) σ (σ.set i (some v)):=⟨λj=>by
  by_cases z:j=i
  .exact .inr ⟨z ▸ hi,by rw[z,jf]⟩
  .exact .inl (eN z),WH,λj hj=>VQ wo⟩
 by_cases hl:i<o.length
 .refine⟨own1 own i [],⟨by rw[WH,WH,h.len],λj y e=>?_,λj hj a ha=>?_,λj k a e1 e2=>?_⟩,go⟩
  .by_cases z:j=i
   .subst z;rw[UU hl]at e;cases e;rw[jf,UU (h.len ▸ hl)];exact⟨rfl,v,rfl,r.same le⟩
   .rw[VQ (Ne.symm z)]at e;rw[eN z,VQ (Ne.symm z)];exact(h.sl j y e).same le λ_ _ z=>z
  .rw[WH]at hj;rw[eN wo]at ha;exact h.out j hj a ha
  .by_cases z:j=i
   .rw[z,jf]at e1;cases e1
   by_cases y:k=i
   .rw[y,jf]at e2;cases e2
   .rw[eN z]at e1;rw[eN y]at e2;exact h.dis j k a e1 e2
 .refine⟨own,?_,⟨λ_=>.inl rfl,go.2⟩⟩;rwa[Q4 (Nat.not_lt.mp hl),Q4 (h.len ▸ Nat.not_lt.mp hl)]
def bY(i:Nat)(hN:X.N.Nodup:=by assumption)(hx:Loc X.env.scope x:=by first|exact .inl rfl|exact .inr rfl)(hi:X.N[i]?=some x:=by rfl)(hn:i<n:=by decide)(hf:qi X x:=by first|exact .inl rfl|exact .inr rfl|assumption):QG X n (.Name x pos) (hName i):=(jU hN hi hx hf).imp λv σ H Q hP=>by
 obtain⟨own,o,t,R,h,r,hg,k⟩:=hP;obtain⟨am,h',S⟩:=h.setF r hn;exact k am _ _ hg S h'
def c7 : QGs X n [] aoR:=aem.imp λv σ H Q hP=>by
 obtain⟨own,o,t,R,h,r,hg,k⟩:=hP;cases r with
 |nil=>exact⟨rfl,k own σ o hg .refl h⟩
 |cons _ _=>exact hg.elim
variable{g:qE}{gs:qA}{tg:Expr}
def bN(h1:QG X n e g)(h2:QGs X n es gs)(hs:(assignEach (e::es) X.env).map (·.2)=assign e X.env::(assignEach es X.env).map (·.2):=by rfl):QGs X n (e::es) (amA g gs):=(ade h1 h2 hs).imp λv σ H Q hP=>by
 obtain⟨own,o,t,R,h,r,hg,k⟩:=hP;cases r with
 |nil=>exact hg.elim
 |cons a b=>exact⟨_,_,rfl,own,o,_,_,h,a,hg,λam σ' o' q S h'=>⟨am,o',_,R,h',b.same S.same,q,λbX σ2 o2 q S2 h2=>k bX σ2 o2 q (S.trans S2) h2⟩⟩
def eX{m:Nat}(h:QGs X m es gs)(hc:X.calm=true:=by rfl)(hn:(assignEach es X.env).length=n:=by rfl)(bu:zg X es:=by rfl):QG X m (.Tuple es k pos) (aoy n gs):=(ag9 hc h hn bu).imp λv σ H Q hP=>by
 obtain⟨own,o,t,R,h,r,hg,k⟩:=hP;cases t<;>try exact hg.elim
 obtain⟨a,xs,rfl,e,r⟩:=r.tupI;exact⟨a,xs,rfl,cZ.tup e,r.len.trans hg.1,own,o,_,R,h,r,hg.2,k⟩
def an5(a:RE)(g:qE):RS:=λE o=>a o λx=>g (frz x) o E.nx
def RX(he:QE X e re)(hg:QG X n tg g)(hs:swapsWithSole [tg] e pos.line X.env=pure false:=by rfl)(hw:swappedStores [tg] e X.env=pure none:=by rfl)(h1:(assignEach [tg] X.env).map (·.2)=[assign tg X.env]:=by rfl):QS X (.Assign [tg] e pos) (an5 re g) :=
 (XD he hg hs hw h1).imp λD σ H hP=>by obtain⟨own,o,E,h,hr,L⟩:=hP;exact tQ.mk h hr λH1 v y q E1 r1=>⟨own,o,_,_,h.same E1,r1,q,λam σ' o' q S h'=>L.nx am H1 σ' o' q ((bT E1).trans S.same) h'⟩
def start'(n:Nat)(ts:zn):zC:=ts.map OT.fz++List.replicate (n-ts.length) .und
def SR.start{H:Hp}{vs:Ε}{ts:zn}(r:bZ K H vs ts)(N:Θ):SR K (λ_=>[]) H (start N vs) (start' N.length ts):=by
 have e0:Ow (λ_=>[])=λ_=>False:=funext λb=>propext ⟨λhP=>by obtain⟨_,z⟩:=hP;exact(nomatch z),False.elim⟩;refine⟨by unfold start' L2.start;simp[r.len],λi x e=>?_,λ_ _ _ z=>(nomatch z),λi j a z=>(nomatch z)⟩;rw[e0,Hl];unfold start' at e;unfold L2.start;by_cases hi:i<ts.length
 .rw[aF (by simpa using hi),aq,aj hi]at e;cases e;obtain⟨v,e1,r1⟩:=r.at_ (aj hi);rw[aF (by rwa[ak,r.len]),aq,e1];exact⟨rfl,v,rfl,r1⟩
 .rw[aD (by simpa using hi),ak,XG]at e;by_cases hj:i-ts.length<N.length-ts.length
  .rw[ZY hj]at e;cases e;rfl
  .rw[ZZ hj]at e;cases e
def Fun.okT{ah:Str}{N:Θ}{S:ST}(F:Fun K x ah st f fd)(sc:bK N ps (bG st))
 {r}(bg:∀{ai:Value}{A:Around}{outer:xl}{s:Shared}{H:Hp}{E:XK},dH k (A.deeper (envOfC ah (bG st) s.heap.objs.size f ai))->N.Nodup ->QSs (Dg CX0 P w K mg base N ah (bG st) f ai A outer s H E).nox (fJ st) r)(b2:∀ts R,S ts R->r { nx:=λ_=>R (.fz .non),rt:=R } (start' N.length ts))(len:∀ts R,S ts R->ts.length=ps.length:=by intro _ _ h;repeat (first|exact(ZH List.length h.1).trans rfl|obtain⟨_,h⟩:=h)):d9 P w K mg base CX0 (k+1) f fd ps (spT K S):=by
 refine F.ok sc (λvs H Q E h=>?_) λai A outer s H vs Q E hr h=>?_
 .obtain⟨ts,R,r,hS,_⟩:=h;exact r.len.trans (len ts R hS)
 .obtain⟨ts,R,r,hS,q⟩:=h;have h1:=@bg ai A outer s H E hr sc.nd;have h2:=b2;have e0:hd (Ow λ_=>[]) H=H:=by rw[show Ow (λ_=>[])=λ_=>False from funext λb=>propext ⟨λhP=>by obtain⟨_,z⟩:=hP;exact(nomatch z),False.elim⟩,Hl]
  have fin:∀(S:Addr->Prop)H' v x B,R x->z0 H (hd S H')->Slo K (hd S H') H' (some v) B x->(∀a∈B,S a)->Q v H':=λS' H' v x B rx E s hB =>
   q H' v x rx (E.trans cZ) ⟨B,λa ha=>E.free (o_ (hB a ha)),s.same (gU (λb z=>.inl (z.elim False.elim (hB b))) λ_ _ z=>z) λ_ _ z=>z⟩
  refine⟨_,h1,λ_=>[],_,_,SR.start r N,h2 ts R hS,⟨λown H' σ o rx E h=>?_,λS' H' v x B rx E s hB=>fin S' H' v x B rx (e0 ▸ E) s hB,λ_ _ _ _ z=>z.elim,λ_ _ _ _ z=>z.elim,λ_ _ _ _ _ _ z=>z.elim⟩⟩;exact fin (Ow own) H' .non _ [] rx (e0 ▸ E) ⟨rfl,_,rfl,.non⟩ λ_ z=>(nomatch z)
def Fun.okU{ah:Str}{N:Θ}{S:ST}(F:Fun K x ah st f fd)(sc:bK N ps (bG st))
 (bg:∀(ai:Value)(A:Around)(outer:xl)(s:Shared)(H:Hp)(E:XK),dH k (A.deeper (envOfC ah (bG st) s.heap.objs.size f ai))->N.Nodup ->
   ∃r,QSs (Dg CX0 P w K mg base N ah (bG st) f ai A outer s H E).nox (fJ st) r/\∀ts R,S ts R->r { nx:=λ_=>R (.fz .non),rt:=R } (start' N.length ts))(len:∀ts R,S ts R->ts.length=ps.length:=by intro _ _ h;repeat (first|exact(ZH List.length h.1).trans rfl|obtain⟨_,h⟩:=h)):d9 P w K mg base CX0 (k+1) f fd ps (spT K S):=by
 refine F.ok sc (λvs H Q E h=>?_) λai A outer s H vs Q E hr h=>?_
 .obtain⟨ts,R,r,hS,_⟩:=h;exact r.len.trans (len ts R hS)
 .obtain⟨ts,R,r,hS,q⟩:=h;obtain⟨rd,h1,h2⟩:=bg ai A outer s H E hr sc.nd;have e0:hd (Ow λ_=>[]) H=H:=by rw[show Ow (λ_=>[])=λ_=>False from funext λb=>propext ⟨λhP=>by obtain⟨_,z⟩:=hP;exact(nomatch z),False.elim⟩,Hl]
  have fin:∀(S:Addr->Prop)H' v x B,R x->z0 H (hd S H')->Slo K (hd S H') H' (some v) B x->(∀a∈B,S a)->Q v H':=λS' H' v x B rx E s hB =>
   q H' v x rx (E.trans cZ) ⟨B,λa ha=>E.free (o_ (hB a ha)),s.same (gU (λb z=>.inl (z.elim False.elim (hB b))) λ_ _ z=>z) λ_ _ z=>z⟩
  refine⟨_,h1,λ_=>[],_,_,SR.start r N,h2 ts R hS,⟨λown H' σ o rx E h=>?_,λS' H' v x B rx E s hB=>fin S' H' v x B rx (e0 ▸ E) s hB,λ_ _ _ _ z=>z.elim,λ_ _ _ _ z=>z.elim,λ_ _ _ _ _ _ z=>z.elim⟩⟩;exact fin (Ow own) H' .non _ [] rx (e0 ▸ E) ⟨rfl,_,rfl,.non⟩ λ_ z=>(nomatch z)
abbrev RI:=zC->(zn->Prop)->Prop
def Wlk(K:Frag)(J:It)(F:Hp)(xs:zn):Prop:=∀(S:Addr->Prop)(H:Hp)(i:Nat),(∀b,S b->H b≠none)->z0 F (hd S H) ->
 (i=xs.length->J.stop i H)/\∀t,xs[i]?=some t->J.go i H/\∀x H',J.yld i H x H'->z0 H H'/\Rep K (hd S H') x t
def tQI(K:Frag)(r:RI):TI:=λσ H Q=>∃own o R,SR K own H σ o/\r o R/\∀H' J xs,R xs->z0 H H'->Wlk K J (hd (Ow own) H') xs->Q J H'
def QI(X:Cx)(tg it:Expr)(r:RI):Prop:=PI X tg it (tQI X.K r)
def PI.imp{it:Expr}{t t':TI}(h:PI X tg it t)(i:∀σ H Q,t' σ H Q->t σ H Q):PI X tg it t':=λaa s σ H Q I q=>h aa s σ H Q I (i σ H Q q)
def ao8(a:RE):RI:=λo q=>a o λx=>match frz x with|.lst ts=>q ts|_=>False
def VL{t:Addr}{u:HO}(n:H t=none)(hs:∀b,S b->H b≠none):hd S (upd H t u) t=some u:=by rw[cN λz=>hs t z n];exact bW
variable{a b iter a8:Expr}{bi az:ze}{ri:RI}{rc rt:RT}{H1 H0:Hp}{scope sO:Scope}{N0:Θ}{C0:Addr}{s0:Shared}{db:Φ}{c8:Γ}{i0:Nat}{y0:Str}{q:zn->Prop}
def cj(he:QE X e re):QI X tg e (ao8 re):=(aeY he).imp λσ H Q ⟨own,o,R,h,hr,k⟩=>tQ.mk h hr λH1 v x q E1 r1=>by
 revert r1 q
 generalize frz x=t;intro q r1;cases t<;>try exact q.elim
 obtain⟨a,xs,rfl,e,r⟩:=r1.lstI;refine⟨a,rfl,⟨xs,.of (cT e).2⟩,k H1 _ _ q E1 λS H2 i _ SF=>⟨λhi=>⟨xs,.of (cT (SF _ _ e)).2,by rw[r.len];exact WG hi.symm⟩,λt ht=>?_⟩⟩;obtain⟨y,ey,ry⟩:=r.at_ ht;refine⟨⟨xs,y,.of (cT (SF _ _ e)).2,ey⟩,?_⟩;rintro x H3 ⟨rfl,hx⟩;have:=hx xs (.of (cT (SF _ _ e)).2);rw[ey]at this;cases this;exact⟨.refl _,ry.same SF⟩
def rng(lo:Int)(n:Nat):zn:=(List.range n).map λk:Nat=>.int (lo+k)
def Yk{lo:Int}{F:Hp} : Wlk K (Itr lo n) F (rng lo n):=λS H i _ _=>⟨λhi=>by rw[rng,ak,WP]at hi;exact WG hi.symm,λt ht=>by
 unfold rng at ht;rw[aq]at ht;by_cases hi:i<n
 .rw[VX hi]at ht;cases ht;refine⟨hi,?_⟩;rintro x H' ⟨rfl,rfl⟩;exact⟨.refl _,.int _⟩
 .rw[aM (by simpa using hi)]at ht;cases ht⟩
def aoG(r:RA):RI:=λo q=>r o λts=>match ts with|[.int j]=>(-(2^62)<=j/\j<2^62)/\q (rng 0 j.toNat)|_=>False
def apE(r:RA):RI:=λo q=>r o λts=>match ts with|[.int i,.int j]=>(-(2^62)<=i/\i<2^62/\-(2^62)<=j/\j<2^62)/\q (rng i (j-i).toNat)|_=>False
def dW(hm:X.mg "range"=none)(ha:QA X [a] r)(hg:Gl X "range":=by rfl)(hs:starEach [a] X.env=[(false,eval a X.env)]:=by rfl):QI X tg (.Call (.Name "range" p) [a] [] pos) (aoG r):=(Zu hg hm ha hs).imp λσ H Q ⟨own,o,R,h,hr,k⟩=>⟨own,o,_,h,hr,λH1 vs ts q _ E1 r1=>by
 match ts,q with
 |[.int j],q =>
  obtain⟨x,rfl,rx⟩:=r1.one;cases rx;exact⟨j,rfl,q.1.1,q.1.2,k H1 _ _ q.2 E1 Yk⟩⟩
def NK(hm:X.mg "range"=none)(ha:QA X [a,b] r)(hg:Gl X "range":=by rfl)(hs:starEach [a,b] X.env=[(false,eval a X.env),(false,eval b X.env)]:=by rfl)(eJ:starEach [b] X.env=[(false,eval b X.env)]:=by rfl):QI X tg (.Call (.Name "range" p) [a,b] [] pos) (apE r):=(Zi hg hm ha hs eJ).imp λσ H Q ⟨own,o,R,h,hr,k⟩=>⟨own,o,_,h,hr,λH1 vs ts q _ E1 r1=>by
 match ts,q with
 |[.int i,.int j],q =>
  obtain⟨x,y,rfl,rx,ry⟩:=r1.two;cases rx;cases ry;exact⟨i,j,rfl,q.1,k H1 _ _ q.2 E1 Yk⟩⟩
def rE(ts:zn):zn:=ts.zipIdx.map λp=>.tup [.int (p.2:Nat),p.1]
def aoF(r:RA):RI:=λo q=>r o λts=>match ts with|[.lst ts]=>q (rE ts)|_=>False
def vA{x1}(hm:X.mg "enumerate"=none)(ha:QA X [a] r)(hg:Gl X "enumerate":=by rfl)(hs:starEach [a] X.env=[(false,eval a X.env)]:=by rfl):QI X (.Tuple bi x1 aw) (.Call (.Name "enumerate" p) [a] [] pos) (aoF r):=(af3 hg hm ha hs).imp λσ H Q ⟨own,o,R,h,hr,k⟩=>⟨own,o,_,h,hr,λH1 vs ts q _ E1 r1=>by
 match ts,q with
 |[.lst ts],q =>
  obtain⟨x,rfl,rx⟩:=r1.one;obtain⟨a,xs,rfl,e,r⟩:=rx.lstI;refine⟨a,xs,rfl,(cT e).2,k H1 _ _ q E1 λS H2 i hs SF=>⟨λhi=>⟨xs,(cT (SF _ _ e)).2,by rw[r.len,hi];simp[rE]⟩,λt ht=>?_⟩⟩;unfold rE at ht;rw[aq]at ht;by_cases hi:i<ts.length
  .rw[aj (by simpa using hi),QU]at ht;cases ht;obtain⟨y,ey,ry⟩:=r.at_ (aj hi);refine⟨⟨xs,(cT (SF _ _ e)).2,by rwa[r.len]⟩,?_⟩;rintro x H3 ⟨fc,x',t,e',ex,n,rfl,rfl⟩;rw[(cT (SF _ _ e)).2]at e';cases e';rw[ey]at ex;cases ex;refine⟨z0.upd n,.tup (.of (VL n hs)) (.cons ?_ (.cons (ry.same (SF.trans (bT (z0.upd n)))) .nil))⟩;rw[show((0+i:Nat):Int)=(i:Int)by lia];exact .int _
  .rw[aM (by simpa using hi)]at ht;cases ht⟩
def Gw(ts us:zn):zn:=(ts.zip us).map λp=>.tup [p.1,p.2]
def apn(r:RA):RI:=λo q=>r o λts=>match ts with|[.lst ts,.lst us]=>q (Gw ts us)|_=>False
def JL{x1}(hm:X.mg "zip"=none)(ha:QA X [a,b] r)(hg:Gl X "zip":=by rfl)(hs:starEach [a,b] X.env=[(false,eval a X.env),(false,eval b X.env)]:=by rfl)(eJ:starEach [b] X.env=[(false,eval b X.env)]:=by rfl):QI X (.Tuple bi x1 aw) (.Call (.Name "zip" p) [a,b] [] pos) (apn r):=(ahs hg hm ha hs eJ).imp λσ H Q ⟨own,o,R,h,hr,k⟩=>⟨own,o,_,h,hr,λH1 vs ts q _ E1 r1=>by
 match ts,q with
 |[.lst ts,.lst us],q =>
  obtain⟨x,y,rfl,rx,ry⟩:=r1.two;obtain⟨a,xs,rfl,e,r⟩:=rx.lstI;obtain⟨b,ys,rfl,e2,r2⟩:=ry.lstI;refine⟨a,b,xs,ys,rfl,(cT e).2,(cT e2).2,k H1 _ _ q E1 λS H2 i hs SF=>⟨λhi=>⟨xs,ys,(cT (SF _ _ e)).2,(cT (SF _ _ e2)).2,?_⟩,λt ht=>?_⟩⟩
  .rw[r.len,r2.len];rw[Gw,ak,W1]at hi;lia
  .unfold Gw at ht;rw[aq]at ht;by_cases hi:i<ts.length/\i<us.length
   .rw[aj (by rw[W1];omega),JU]at ht;cases ht;obtain⟨y,ey,ry⟩:=r.at_ (aj hi.1);obtain⟨z,ez,rz⟩:=r2.at_ (aj hi.2);refine⟨⟨xs,ys,(cT (SF _ _ e)).2,(cT (SF _ _ e2)).2,by rw[r.len];exact hi.1,by rw[r2.len];exact hi.2⟩,?_⟩;rintro x H3 ⟨fc,kN,x',y',t,e',lb,ex,ey',n,rfl,rfl⟩;rw[(cT (SF _ _ e)).2]at e';cases e';rw[(cT (SF _ _ e2)).2]at lb;cases lb;rw[ey]at ex;cases ex;rw[ez]at ey';cases ey';have S3:=SF.trans (bT (S:=S) (z0.upd (o:=.tup [y,z]) n));exact⟨z0.upd n,.tup (.of (VL n hs)) (.cons (ry.same S3) (.cons (rz.same S3) .nil))⟩
   .rw[aM (by rw[W1];omega)]at ht;cases ht⟩
def vH(g:qE)(b:RS)(E:DT):zn->zC->Prop
 |[],o=>E.nx o
 |t::ts,o=>∃N:zC->Prop,(∀o,N o->vH g b E ts o)/\g t o λo'=>b { E with nx:=N,ct:=N,bk:=E.nx } o'
def apx(it:RI)(g:qE)(b:RS):RS:=λE o=>it o λxs=>vH g b E xs o
def dU{bv:xB}{rb:RS}(hi:QI X tg iter ri)(hg:QG X n tg g)(hb:QSs X bv rb)(hc:X.calm=true:=by rfl)(hp:PassesOwn (model X.prog X.w) X.A X.env X.xe:=by first|exact PassesOwn.never|exact PassesOwn.leaving)
 (hs:qV X iter:=by intro _;rfl):QS X (.For tg iter bv [] pos) (apx ri g rb):=(ahZ hp hc hi hg hb hs).imp λD σ H ⟨own,o,E,h,hr,L⟩=>⟨own,o,_,h,hr,λH1 J xs q E1 wk=>by
 refine⟨λi m σ' H'=>∃am o',SR X.K am H' σ' o'/\z0 (hd (Ow own) H1) (hd (Ow am) H')/\vH g rb E (xs.drop i) o'/\i<=xs.length/\m=xs.length-i,⟨_,own,o,h.same E1,.refl _,q,aZ _,rfl⟩,?_⟩;rintro i m σ' H' ⟨am,o',h',S',hl,il,rfl⟩;obtain⟨w1,w2⟩:=wk (Ow am) H' i (λb z=>(h'.sole z).ne) S';have S0:=(bT E1).trans S';by_cases hi:i<xs.length
 .right;obtain⟨go,yl⟩:=w2 _ (aj hi);rw[Qr hi]at hl;obtain⟨N,hN,hl⟩:=hl;refine⟨go,λσ2 H2=>∃bX o2,SR X.K bX H2 σ2 o2/\z0 (hd (Ow own) H1) (hd (Ow bX) H2)/\vH g rb E (xs.drop (i+1)) o2,λσ2 H2 ⟨bX,o2,a,b,c⟩=>⟨xs.length-(i+1),by omega,bX,o2,a,b,c,hi,rfl⟩,λx H2 y=>?_⟩;obtain⟨E2,rx⟩:=yl x H2 y;refine⟨am,o',_,_,h'.same E2,rx,hl,λfg σ3 o3 q3 iO h3=>⟨fg,o3,_,h3,q3,?_⟩⟩;have S3:=S'.trans ((bT (S:=Ow am) E2).trans iO.same);have L3:=L.step ((bT E1).trans S3);exact⟨λcK H4 σ4 o4 q S h=>⟨cK,o4,h,S3.trans S,hN _ q⟩,L3.rt,λcK H4 σ4 o4 q S h=>L3.nx cK H4 σ4 o4 q S h,λcK H4 σ4 o4 q S h=>⟨cK,o4,h,S3.trans S,hN _ q⟩,L3.xc⟩
 .left;refine⟨w1 wo,?_⟩;rw[U2 (Nat.not_lt.mp hi)]at hl;exact L.nx am H' σ' o' hl S0 h'⟩
def agY(c:RT)(b:RS):RS:=λE o=>∃W:Nat->zC->Prop,(∃m,W m o)/\∀m o,W m o->c o λk=>sw k (∃N:zC->Prop,(∀o',N o'->∃m',m'<m/\W m' o')/\b { E with nx:=N,ct:=N,bk:=E.nx } o) (E.nx o)
def IK{bv:xB}{rb:RS}(hc:QT X c rc)(hb:QSs X bv rb)(hp:PassesOwn (model X.prog X.w) X.A X.env X.xe:=by first|exact PassesOwn.never|exact PassesOwn.leaving):QS X (.While c bv [] pos) (agY rc rb):=(abw hp hc hb).imp λD σ H hP=>by
 obtain⟨own,o,E,h,hr,L⟩:=hP;obtain⟨W,⟨m0,w0⟩,st⟩:=hr;refine⟨λm σ' H'=>∃am o',SR X.K am H' σ' o'/\z0 (hd (Ow own) H) (hd (Ow am) H')/\W m o',⟨m0,own,o,h,.refl _,w0⟩,?_⟩;rintro m σ' H' ⟨am,o',h',S',wm⟩;refine tQT.mk h' (st m o' wm) λH1 k q E1=>Jx q (λhP=>?_) λq=>L.nx am H1 σ' o' q (S'.trans (bT E1)) (h'.same E1);obtain⟨N,hN,q⟩:=hP;have S1:=S'.trans (bT E1);have L1:=L.step S1;refine⟨λσ2 H2=>∃bX o2,SR X.K bX H2 σ2 o2/\z0 (hd (Ow own) H) (hd (Ow bX) H2)/\N o2,λσ2 H2 hP=>?_,am,o',_,h'.same E1,q,⟨λcK H4 σ4 o4 q S h=>⟨cK,o4,h,S1.trans S,q⟩,L1.rt,λcK H4 σ4 o4 q S h=>L1.nx cK H4 σ4 o4 q S h,λcK H4 σ4 o4 q S h=>⟨cK,o4,h,S1.trans S,q⟩,L1.xc⟩⟩;obtain⟨bX,o2,a,b,c⟩:=hP;obtain⟨m',lt,w⟩:=hN o2 c;exact⟨m',lt,bX,o2,a,b,w⟩
def iU(g:qE)(c:RT)(e:RE)(o:zC):zn->(zn->Prop)->Prop
 |[],q=>q []
 |t::ts,q=>∃(N:T->Prop)(M:Prop),(∀y,N y->iU g c e o ts λus=>q (y::us))/\(M->iU g c e o ts q)/\g t o λo'=>c o' λb=>sw b (e o' λy=>N (frz y)) M
def apu:RT:=λ_ q=>q true
def W4(it:RI)(n:Nat)(g:qE)(c:RT)(e:RE):RE:=λo q=>it o λxs=>xs.length<=sizeLine/\iU g c e (List.replicate n .und++o) xs λus=>q (.l1 us)
def ownS(n L:Nat)(own:zk)(D:Addr):zk:=λi=>if i<n then[]else if i<n+L then own (i-n)else if i=n+L then[D]else own (i-n-1)
def Ow.ownS{n L:Nat}{own:zk}{D b:Addr} : Ow (ownS n L own D) b↔Ow own b\/b=D:=by
 constructor
 .rintro⟨i,z⟩;unfold L2.ownS at z;by_cases h1:i<n
  .rw[ZY h1]at z;cases z
  rw[ZZ h1]at z;by_cases h2:i<n+L
  .rw[ZY h2]at z;exact .inl ⟨_,z⟩
  rw[ZZ h2]at z;by_cases h3:i=n+L
  .rw[ZY h3]at z;exact .inr (YR.mp z)
  .rw[ZZ h3]at z;exact .inl ⟨_,z⟩
 .rintro(⟨i,z⟩|rfl)
  .by_cases h:i<L
   .exact⟨n+i,by unfold L2.ownS;rw[ZZ (Ts (X1 _ _)),ZY (Nat.add_lt_add_left h _),show n+i-n=i by exact TW _ _];exact z⟩
   .exact⟨n+i+1,by unfold L2.ownS;rw[ZZ wo,ZZ wo,ZZ wo,show n+i+1-n-1=i by lia];exact z⟩
  .exact⟨n+L,by unfold L2.ownS;rw[ZZ (Ts (X1 _ _)),ZZ (X2 _),ZY rfl];simp⟩
def SR.block(h:SR K own H σ o)(E:z0 H H')(nD:H D=none)(eD:H' D=some (.lst ys))(pre:L2.St):SR K (ownS pre.length o.length own D) H' (pre++σ) (List.replicate pre.length .und++o):=by
 have le:z0 (hd (Ow own) H) (hd (Ow (ownS pre.length o.length own D)) H'):=gU (λb z=>(Ow.ownS.mp z).imp id λ(e:b=D)=>e ▸ nD) E;have gi:∀j,D∉own j:=λj z=>(h.sole ⟨j,z⟩).ne nD;refine⟨by simp[h.len],λi x e=>?_,λi hi a ha=>?_,λi j a e1 e2=>?_⟩
 .by_cases h1:i<pre.length
  .rw[aF (by simpa using h1),XG,ZY h1]at e;cases e;show ownS _ _ _ _ i=[];unfold ownS;rw[ZY h1]
  .rw[aD (by simpa using h1),aN]at e;have h2:i-pre.length<o.length:=(ao.mp e).1;rw[aD (Nat.not_lt.mp h1)];have:ownS pre.length o.length own D i=own (i-pre.length):=by unfold ownS;rw[ZZ h1,ZY (by omega)]
   rw[this];exact(h.sl _ x e).same le E
 .rw[aA,aN]at hi;unfold ownS at ha;rw[ZZ wo,ZZ (Ts hi)]at ha;by_cases h3:i=pre.length+o.length
  .rw[ZY h3]at ha;cases YR.mp ha;exact⟨_,eD⟩
  .rw[ZZ h3]at ha;obtain⟨xs,e⟩:=h.out _ wo a ha;exact⟨xs,E _ _ e⟩
 .unfold ownS at e1 e2;by_cases a1:i<pre.length
  .rw[ZY a1]at e1;cases e1
  by_cases b1:j<pre.length
  .rw[ZY b1]at e2;cases e2
  rw[ZZ a1]at e1;rw[ZZ b1]at e2;by_cases a2:i<pre.length+o.length<;>by_cases b2:j<pre.length+o.length
  .rw[ZY a2]at e1;rw[ZY b2]at e2;have:=h.dis _ _ a e1 e2;omega
  .rw[ZY a2]at e1;rw[ZZ b2]at e2;by_cases b3:j=pre.length+o.length
   .rw[ZY b3]at e2;cases YR.mp e2;exact absurd e1 (gi _)
   .rw[ZZ b3]at e2;have:=h.dis _ _ a e1 e2;omega
  .rw[ZZ a2]at e1;rw[ZY b2]at e2;by_cases a3:i=pre.length+o.length
   .rw[ZY a3]at e1;cases YR.mp e1;exact absurd e2 (gi _)
   .rw[ZZ a3]at e1;have:=h.dis _ _ a e1 e2;lia
  .rw[ZZ a2]at e1;rw[ZZ b2]at e2;by_cases a3:i=pre.length+o.length<;>by_cases b3:j=pre.length+o.length
   .exact Eq.trans a3 (Eq.symm b3)
   .rw[ZY a3]at e1;rw[ZZ b3]at e2;cases YR.mp e1;exact absurd e2 (gi _)
   .rw[ZZ a3]at e1;rw[ZY b3]at e2;cases YR.mp e2;exact absurd e1 (gi _)
   .rw[ZZ a3]at e1;rw[ZZ b3]at e2;have:=h.dis _ _ a e1 e2;lia
def UG{am:zk}{pre σ':L2.St}(hp:pre.length=n)(g:FQ n own am (pre++σ) σ'):∃b6:L2.St,b6.length=n/\σ'=b6++σ:=by
 obtain⟨_,l,k⟩:=g;refine⟨σ'.take n,by rw[aY,l,aA];lia,?_⟩;refine List.ext_getElem? λi=>?_;by_cases hi:i<n
 .rw[aF (by rw[aY,l,aA];lia),List.getElem?_take_of_lt hi]
 .rw[aD (by rw[aY,l,aA];lia),k i (Up hi),aD wo,aY,l,aA]
  congr 1
  lia
def Uw{J:It}{xs:zn}(h1:SR K own H1 σ o)(wk:Wlk K J (hd (Ow own) H1) xs)(lx:xs.length<=sizeLine)(q:iU g rc re (List.replicate n .und++o) xs λus=>R (.l1 us))(nD:H1 D=none)(k:∀H' v x,R x->z0 H1 H'->NR K (Ow own) H1 H' v x->Q v H') :
  ∃W:Nat->Nat->Ε->Hp->Prop,(∃m,W 0 m [] (upd H1 D (.lst [])))/\∀i m ys Hc,W i m ys Hc ->
   (J.stop i Hc/\Q (.ref D) Hc)\/(J.go i Hc/\∀x H',J.yld i Hc x H'->∀pre:L2.St,pre.length=n->tMG (tQG K n g) x (pre++σ) H' λσ2 H2=>∃b6:L2.St,b6.length=n/\σ2=b6++σ/\tMT (tQT K rc) σ2 H2 λb H3 =>
    match b with
    |true=>tM (tQ K re) σ2 H3 λy H4=>ys.length<sizeLine/\H4 D=some (.lst ys)/\∃m',m'<m/\W (i+1) m' (ys++[y]) (upd H4 D (.lst (ys++[y])))
    |false=>∃m',m'<m/\W (i+1) m' ys H3):=by
 generalize hO:List.replicate n OT.und++o=ob at q;refine⟨λi m ys Hc=>∃ts,Hc D=some (.lst ys)/\z0 H1 Hc/\bZ K (hd (λb=>Ow own b\/b=D) Hc) ys ts/\ys.length<=i/\i<=xs.length/\m=xs.length-i/\iU g rc re ob (xs.drop i) λus=>R (.l1 (ts++us)),⟨_,[],bW,z0.upd nD,.nil,aG _,aZ _,rfl,q⟩,?_⟩;rintro i m ys Hc ⟨ts,eD,Ec,rs,il,ix,rfl,hl⟩;have hn:∀b,Ow own b\/b=D->Hc b≠none:=λb z=>z.elim (λz=>((h1.same Ec).sole z).ne) λe z=>by rw[e,eD]at z;cases z
 have SD:z0 (hd (Ow own) H1) (hd (λb=>Ow own b\/b=D) Hc):=gU (λb z=>z.imp id λ(e:b=D)=>e ▸ nD) Ec;obtain⟨w1,w2⟩:=wk (λb=>Ow own b\/b=D) Hc i hn SD;by_cases hi:i<xs.length
 .right;obtain⟨go,yl⟩:=w2 _ (aj hi);rw[Qr hi]at hl;obtain⟨N,M,hN,hM,hl⟩:=hl;refine⟨go,λx H2 y pre hp=>?_⟩;obtain⟨E2,rx⟩:=yl x H2 y;have eO:(λb=>Ow own b\/b=D)=Ow (ownS n o.length own D):=funext λb=>propext Ow.ownS.symm;have hb:SR K (ownS n o.length own D) H2 (pre++σ) ob:=by
   have:=h1.block (Ec.trans E2) nD (E2 _ _ eD) pre;rw[hp,hO]at this;exact this
  rw[eO]at rx rs;refine⟨_,⟨ownS n o.length own D,ob,_,_,hb,rx,hl,λfg σ3 o3 q3 iO h3=>?_⟩,λ_ _ z=>z⟩;obtain⟨b6,eK,rfl⟩:=UG hp iO;have e3:fg=ownS n o.length own D:=funext λj=>by
   rcases iO.1 j with e|⟨e1,e2⟩
   .exact e
   .rw[e2];unfold ownS;rw[ZY e1]
  subst e3;refine⟨b6,eK,rfl,_,tQT.mk h3 q3 λH3 b q4 E3=>?_,λ_ _ z=>z⟩;have q4:sw b (re o3 λy=>N (frz y)) M:=q4;cases b with
  |false=>exact⟨xs.length-(i+1),by lia,ts,E3 _ _ (E2 _ _ eD),Ec.trans (E2.trans E3),by rw[eO];exact rs.same (bT (E2.trans E3)),by exact aL il (X1 _ _),by exact hi,rfl,hM q4⟩
  |true =>
   refine⟨_,tQ.mk (h3.same E3) q4 λH4 v y q5 E4 r4=>⟨by lia,E4 _ _ (E3 _ _ (E2 _ _ eD)),xs.length-(i+1),by lia,ts++[frz y],bW,λb u e=>?_,?_,by rw[aA,List.length_singleton];exact Nat.succ_le_succ il,by exact hi,rfl,?_⟩,λ_ _ z=>z⟩
   .rw[bU λz=>by rw[z,nD]at e;cases e];exact E4 _ _ (E3 _ _ (E2 _ _ (Ec _ _ e)))
   .rw[FJ (S:=λb=>Ow own b\/b=D) (.inr rfl),eO];exact(rs.same (bT (E2.trans (E3.trans E4)))).app (.cons r4 .nil)
   .have:=hN _ q5;simp only[Wp,List.singleton_append];exact this
 .left;have:i=xs.length:=by lia
  refine⟨w1 this,?_⟩;rw[U2 (Up hi)]at hl;have hl:R (.l1 (ts++[])):=hl;rw[List.append_nil]at hl;exact k Hc _ _ hl Ec (NR.l1 nD eD rs)
def Ja(h:tQ K (W4 ri n g rc re) σ H Q):sS (tQI K ri) n (tMG (tQG K n g)) (tMT (tQT K rc)) (tM (tQ K re)) σ H Q:=by
 obtain⟨own,o,R,h,hr,k⟩:=h;exact⟨own,o,_,h,hr,λH1 J xs q E1 wk D nD=>Uw (h.same E1) wk q.1 q.2 nD λH' v x rx E n=>k H' v x rx (E1.trans E) (n.back E1)⟩
def QTs(X:Cx)(az:ze)(r:RT):Prop:=PTs X az (tQT X.K r)
def cA:QTs X [] apu:=λaa s σ H Q I hP=>by obtain⟨own,o,R,h,hr,k⟩:=hP;exact ad5 aa s σ H Q I (k H true hr (.refl _))
def Bu(h:QT X c rc):QTs X [c] rc:=afg h
def dG(sc:Scope)(N N' xs:Θ)(hi:QI X tg iter ri)(hg:∀{C s₀ H₀ ex pn},QG (X.compG N' scope xs C s₀ H₀ ex pn) xs.length tg g)(ht:∀{C s₀ H₀ ex pn},QTs (X.compG N' scope xs C s₀ H₀ ex pn) az rc)(he:∀{C s₀ H₀ ex pn},QE (X.compG N' scope xs C s₀ H₀ ex pn) a8 re)
 (b9:X.env.scope=sc:=by rfl)(cc:X.N=N:=by rfl)(hc:X.calm=true:=by rfl)(hk:scope.kind=.function:=by rfl)(h:CK sc scope N N' xs:=by decide +kernel)(hs:qV X iter:=by intro _;rfl):QE X (.ListComp a8 [⟨tg,iter,az,0⟩] scope pos) (W4 ri xs.length g rc re) :=
 (aaU (gt:=tQG X.K xs.length g) (tc:=tQT X.K rc) (te:=tQ X.K re) sc N N' xs hi hg ht he b9 cc hc hk h hs).imp λ_ _ _=>Ja
def zO{X:Cx}{tg iter a8:Expr}{az:List Expr}{ri:RI}{g:qE}{rc:RT}{re:RE}{scope:Scope}{pos:Pos}(Z:RI->Nat->qE->RT->RE->RE)(hZ:∀{K σ H Q ri n g rc re},tQ K (Z ri n g rc re) σ H Q->sS (tQI K ri) n (tMG (tQG K n g)) (tMT (tQT K rc)) (tM (tQ K re)) σ H Q)(sc:Scope)(N N':Θ)(x0:Str)(hi:QI X tg iter ri)(hg:∀{C s₀ H₀ ex pn},QG (X.compGC N' scope x0 C s₀ H₀ ex pn) 1 tg g)(ht:∀{C s₀ H₀ ex pn},QTs (X.compGC N' scope x0 C s₀ H₀ ex pn) az rc)(he:∀{C s₀ H₀ ex pn},QE (X.compGC N' scope x0 C s₀ H₀ ex pn) a8 re)
 (b9:X.env.scope=sc:=by rfl)(cc:X.N=N:=by rfl)(hc:X.calm=true:=by rfl)(hk:scope.kind=.function:=by rfl)(gx:∀n acc,cellsFrom n scope.names acc=(x0,n)::acc:=by intro _ _;rfl)(gp:∀h,pushCells h scope.names=h.push { cls:=.type "cell",data:=.cell none }:=by intro _;rfl)(h:(∀y∈scope.names,y.2=.cell->y.1=x0)/\CK0 sc scope N N' [x0]:=by decide +kernel)(hs:qV X iter:=by intro _;rfl):QE X (.ListComp a8 [⟨tg,iter,az,0⟩] scope pos) (Z ri 1 g rc re):=PE.imp (by subst b9 cc;exact Um (ext1 gx gp h.1) hc h.2.1 hk h.2.2.1 h.2.2.2.1 h.2.2.2.2.1 h.2.2.2.2.2 hi (λ_ _ _ _ _=>hg.mono) (λ_ _ _ _ _=>ht.mono) (λ_ _ _ _ _=>he.mono) hs) λ_ _ _=>hZ
def afc:=@zO X tg iter a8 az ri g rc re scope pos W4 Ja
def YZ{x0:Str}(sc:Scope)(N N' xs:Θ)(hi:QI (X.compGC N0 sO x0 C0 s0 H0 db c8) tg iter ri)(hg:∀{C s₀ H₀ ex pn},QG ((X.compGC N0 sO x0 C0 s0 H0 db c8).compG N' scope xs C s₀ H₀ ex pn) xs.length tg g)(ht:∀{C s₀ H₀ ex pn},QTs ((X.compGC N0 sO x0 C0 s0 H0 db c8).compG N' scope xs C s₀ H₀ ex pn) az rc)(he:∀{C s₀ H₀ ex pn},QE ((X.compGC N0 sO x0 C0 s0 H0 db c8).compG N' scope xs C s₀ H₀ ex pn) a8 re)
 (b9:X.env.scope=sc:=by rfl)(cc : [x0]++N0=N:=by rfl)(hc:X.calm=true:=by rfl)(hk:scope.kind=.function:=by rfl)(h:CK (rlb sc sO) scope N N' xs:=by decide +kernel)(hs:∀z,foldedSetIterable iter (X.compGC N0 sO x0 C0 s0 H0 db c8).env z=pure z:=by intro _;rfl):QE (X.compGC N0 sO x0 C0 s0 H0 db c8) (.ListComp a8 [⟨tg,iter,az,0⟩] scope pos) (W4 ri xs.length g rc re):=by
 subst b9 cc;exact dG (X:=X.compGC N0 sO x0 C0 s0 H0 db c8) (rlb X.env.scope sO) _ N' xs hi hg ht he rfl rfl hc hk h hs
def yk{X:Cx}{tg iter a8:Expr}{az:List Expr}{ri:RI}{g:qE}{rc:RT}{re:RE}{scope:Scope}{pos:Pos}{i0:Nat}{y0:Str}{py b7:Pos}(Z:Nat->RI->Nat->qE->RT->RE->RS)(hZ:∀{X i0 ri n g rc re D σ H},tQS X (Z i0 ri n g rc re) D σ H->afn (sS (tQI X.K ri) n (tMG (tQG X.K n g)) (tMT (tQT X.K rc)) (tM (tQ X.K re))) (Ab i0) D σ H)(sc:Scope)(N N' xs:Θ)(hi:QI X tg iter ri)(hg:∀{C s₀ H₀ ex pn},QG (X.compG N' scope xs C s₀ H₀ ex pn) xs.length tg g)(ht:∀{C s₀ H₀ ex pn},QTs (X.compG N' scope xs C s₀ H₀ ex pn) az rc)(he:∀{C s₀ H₀ ex pn},QE (X.compG N' scope xs C s₀ H₀ ex pn) a8 re)(gu:PG X (.Name y0 py) (Ab i0))
 (b9:X.env.scope=sc:=by rfl)(cc:X.N=N:=by rfl)(hc:X.calm=true:=by rfl)(hk:scope.kind=.function:=by rfl)(h:CK sc scope N N' xs:=by decide +kernel)(gm:swapsWith (.ListComp a8 [⟨tg,iter,az,0⟩] scope pos) (some (.Name y0 py)) b7.line X.env=pure true:=by rfl)(hs:qV X iter:=by intro _;rfl):QS X (.Assign [.Name y0 py] (.ListComp a8 [⟨tg,iter,az,0⟩] scope pos) b7) (Z i0 ri xs.length g rc re):=PS.imp (by subst b9 cc;exact aaP (al9 hk h.1) hc h.2.1 hk h.2.2.1 h.2.2.2.1 h.2.2.2.2.1 h.2.2.2.2.2 hi (λ_ _ _ _ _=>hg.mono) (λ_ _ _ _ _=>ht.mono) (λ_ _ _ _ _=>he.mono) gu gm hs) λ_ _ _=>hZ
def aiv{py b7:Pos}:=@yk X tg iter a8 az ri g rc re scope pos i0 y0 py b7 (λi r n g c e=>ahH i (W4 r n g c e)) λ{_ i0 _ _ _ _ _ _ _ _}⟨own,o,E,h,hr,L⟩=>Ja ⟨own,o,_,h,hr,λH' v y q S n=>by
 obtain⟨am,h',S'⟩:=h.putA S n i0;exact L.nx am H' _ _ q S' h'⟩
def eF{N' xs:Θ}{C s₀ H₀ ex pn}(hN:(xs++N').Nodup:=by decide +kernel)(hi:(xs++N')[i]?=some x:=by rfl)(hn:i<n:=by decide)(hx:Loc (X.compG N' scope xs C s₀ H₀ ex pn).env.scope x:=by exact Or.inl rfl)(hf:(X.compG N' scope xs C s₀ H₀ ex pn).fn x=true\/(X.compG N' scope xs C s₀ H₀ ex pn).env.scope.names.lookup x=some .local:=by exact Or.inr rfl):QG (X.compG N' scope xs C s₀ H₀ ex pn) n (.Name x p) (hName i):=bY (i:=i) (hN:=hN) (hx:=hx) (hi:=hi) (hn:=hn) (hf:=hf)
def agn{N':Θ}{x0:Str}{C s₀ H₀ ex pn}(hN:([x0]++N').Nodup:=by decide +kernel)(hx:Loc (X.compGC N' scope x0 C s₀ H₀ ex pn).env.scope x0:=by exact Or.inr rfl):QG (X.compGC N' scope x0 C s₀ H₀ ex pn) 1 (.Name x0 p) (hName 0)   := bY (i:=0) (hN:=hN) (hx:=hx) (hi:=rfl) (hn:=wp) (hf:=(.inl (beq_self_eq_true _)))
def Zq{c:RT}{e:RE}(h:g t o λo'=>c o' λb=>sw b (e o' λy=>iU g c e o ts λus=>q (frz y::us)) (iU g c e o ts q)):iU g c e o (t::ts) q:=⟨λy=>iU g c e o ts λus=>q (y::us),_,λ_ h=>h,id,h⟩
theorem bZ.reps{K:Frag}{F:Hp}{xs:Ε}{ts:zn}(h:bZ K F xs ts):∀n:Nat,bZ K F (List.replicate n xs).flatten (List.replicate n ts).flatten
 |0=>.nil
 |n+1=>by rw[List.replicate_succ,List.replicate_succ,List.flatten_cons,List.flatten_cons];exact h.app (bZ.reps h n)
def cR:GO X (binaryOp .Mult) aoO:=λaa s σ H x y v u Q I rx ry h=>by
 obtain⟨S,t,w,R,_,hx,hy,hg,k⟩:=h;cases w with
 |int j=>?_
 |_=>cases t<;>exact hg.elim
 cases hy;cases t<;>try exact hg.elim
 .cases hx;exact aeA aa s σ H _ _ v u Q I rx ry ⟨_,_,rfl,rfl,hg.1,k H _ _ hg.2 (.refl _) (NR.fz (.int _))⟩
 .cases hx;obtain⟨c,rfl,h1,h2,q⟩:=hg;exact aee aa s σ H _ _ v u Q I rx ry ⟨c,j,rfl,rfl,h1,h2,λz hz=>k H _ _ (q z hz) (.refl _) (NR.fz (.str _))⟩
 .obtain⟨p,xs,rfl,e,r⟩:=hx.lstI;obtain⟨⟨h1,h2,h3⟩,q⟩:=hg;exact ahx aa s σ H _ _ v u Q I rx ry ⟨p,j,xs,rfl,rfl,(cT e).2,h1,h2,by rw[r.len];exact h3,λa ha=>k _ _ _ (q _ rfl) (z0.upd ha) (xV (r.reps j.toNat) (z0.upd ha) ha bW)⟩
mutual
def ofD:PyData->T
 |.none=>.non
 |.bool b=>.bl b
 |.int i=>.int i
 |.str s=>.str s
 |.list ds=>.lst (OD ds)
 |.tuple ds=>.tup (OD ds)
 |.dict _=>.any
def OD:xa->zn
 |[]=>[]
 |d::ds=>ofD d::OD ds
end
mutual
theorem Rep.shows{K:Frag}{F:Hp} : ∀{x:V}{t:T},Rep K F x t->∀d,t=ofD d->d.canLay0=true->jF K F x d
 |_,_,.any v,d,e,s=>by cases d<;>cases e;cases s
 |_,_,.non,d,e,_=>by cases d<;>cases e;exact .non
 |_,_,.bl b,d,e,_=>by cases d<;>cases e;exact .bl _
 |_,_,.int i,d,e,_=>by cases d<;>cases e;exact .int _
 |_,_,.str s,d,e,_=>by cases d<;>cases e;exact .str _
 |_,_,.val v,d,e,_=>by cases d<;>cases e
 |_,_,.tup q h,d,e,s=>by
  cases d<;>cases e;exact .tup q (bZ.shows h _ rfl s)
 |_,_,.lst q h,d,e,s=>by
  cases d<;>cases e;exact .lst q (bZ.shows h _ rfl s)
 |_,_,.scr q h,d,e,_=>by cases d<;>cases e
 |_,_,.dct q l h,d,e,_=>by cases d<;>cases e
 |_,_,.ins q d' l h,d,e,_=>by cases d<;>cases e
 |_,_,.exc q d' l h,d,e,_=>by cases d<;>cases e
theorem bZ.shows{K:Frag}{F:Hp} : ∀{xs:Ε}{ts:zn},bZ K F xs ts->∀ds,ts=OD ds->PyData.canLayAll0 ds=true->gq K F xs ds
 |_,_,.nil,ds,e,_=>by cases ds<;>cases e;exact .nil
 |_,_,.cons a b,ds,e,s=>by
  cases ds<;>cases e;obtain⟨s1,s2⟩:=Bool.and_eq_true_iff.mp s;exact .cons (Rep.shows a _ rfl s1) (bZ.shows b _ rfl s2)
end
def xr:Bool->Bool->Bool
 |false,b=>b
 |true,b=>!b
def eqS:T->T->xS
 |.int i,.int j=>some (decide (i=j))
 |.str i,.str j=>some (decide (i=j))
 |.bl i,.bl j=>some (decide (i=j))
 |.non,.non=>some true
 |.non,.int _=>some false
 |.int _,.non=>some false
 |.non,.str _=>some false
 |.str _,.non=>some false
 |.int _,.str _=>some false
 |.str _,.int _=>some false
 |.tup [.int a,.int b],.tup [.int c,.int d]=>some (decide (a=c)&&decide (b=d))
 |_,_=>none
def gEq(neg:Bool)(t u:T)(q:OT->Prop):Prop:=match eqS t u with
 |some b=>q (.fz (.bl (xr neg b)))
 |none=>∃d e,t=ofD d/\u=ofD e/\SeqAt.shaped d=true/\SeqAt.shaped e=true/\q (.fz (.bl (xr neg (PyData.eqv d e))))
def ak6(a b c d:Int):PyData.eqv (.tuple [.int a,.int b]) (.tuple [.int c,.int d])=(decide (a=c)&&decide (b=d)):=by
 simp only[PyData.eqv,PyData.eqvAll,Bool.and_true]
 rfl
def ahA{F:Hp}{x y:V}{u:T}{b:Bool}(S:z0 F H)(hx:Rep K F x t)(hy:Rep K F y u)(e:eqS t u=some b):(abP x y=true/\decide (x=y)=b)\/∃d e,jF K H x d/\jF K H y e/\SeqAt.shaped d=true/\SeqAt.shaped e=true/\PyData.eqv d e=b:=by
 unfold eqS at e;split at e<;>cases e
 .cases hx;cases hy;exact .inl ⟨rfl,by simp⟩
 .cases hx;cases hy;exact .inl ⟨rfl,by simp⟩
 .cases hx;cases hy;exact .inl ⟨rfl,by simp⟩
 .cases hx;cases hy;exact .inl ⟨rfl,rfl⟩
 .cases hx;cases hy;exact .inl ⟨rfl,rfl⟩
 .cases hx;cases hy;exact .inl ⟨rfl,rfl⟩
 .cases hx;cases hy;exact .inl ⟨rfl,rfl⟩
 .cases hx;cases hy;exact .inl ⟨rfl,rfl⟩
 .cases hx;cases hy;exact .inl ⟨rfl,rfl⟩
 .cases hx;cases hy;exact .inl ⟨rfl,rfl⟩
 .exact .inr ⟨.tuple [.int _,.int _],.tuple [.int _,.int _],(hx.shows _ rfl rfl).same S,(hy.shows _ rfl rfl).same S,rfl,rfl,ak6 _ _ _ _⟩
def abt(neg:Bool)(h1:OpR X (compareOp op) λx y H Q=>abP x y=true/\Q (.bl (xr neg (decide (x=y)))) H)(h2:OpR X (compareOp op) (aja X.K neg)):GO X (compareOp op) (gEq neg):=λaa s σ H x y v u Q I rx ry h=>by
 obtain⟨S,t,w,R,_,hx,hy,hg,k⟩:=h;have xe:∀b:Bool,(if neg then !b else b)=xr neg b:=λb=>by cases neg<;>rfl
 unfold gEq at hg;cases es:eqS t w with
 |some b =>
  rw[es]at hg;rcases ahA cZ hx hy es with⟨a,c⟩|⟨d,e,s1,s2,s3,s4,c⟩
  .exact h1 aa s σ H x y v u Q I rx ry ⟨a,by rw[c];exact k H _ _ hg (.refl _) (NR.fz (.bl _))⟩
  .exact h2 aa s σ H x y v u Q I rx ry ⟨d,e,s1,s2,s3,s4,by rw[xe,c];exact k H _ _ hg (.refl _) (NR.fz (.bl _))⟩
 |none =>
  rw[es]at hg;obtain⟨d,e,e1,e2,s1,s2,q⟩:=hg;exact h2 aa s σ H x y v u Q I rx ry ⟨d,e,(hx.shows d e1 (Bool.and_eq_true_iff.mp s1).1).same cZ,(hy.shows e e2 (Bool.and_eq_true_iff.mp s2).1).same cZ,s1,s2,by rw[xe];exact k H _ _ q (.refl _) (NR.fz (.bl _))⟩
def yY(hu:X.A.units+64<cLine):GO X (compareOp .Eq) (gEq false):=abt false ak8 (aiG hu)
def lN(hu:X.A.units+64<cLine):GO X (compareOp .NotEq) (gEq true):=abt true anv (ag6 hu)
def flat:OT->Prop
 |.fz (.int _)=>True
 |.fz (.bl _)=>True
 |.fz (.str _)=>True
 |.fz .non=>True
 |_=>False
def aoZ(i:Nat)(a:RE):RE:=λo q=>match slot o i with|.und=>False|x=>a (o.set i (.fz (frz x))) λy=>flat y/\q y
def ala(i:Nat)(a:RT):RT:=λo q=>match slot o i with|.und=>False|x=>a (o.set i (.fz (frz x))) q
def YS{P:OT->Prop}(h:match slot o i with|.und=>False|x=>P x):P (slot o i)/\slot o i≠.und:=by
 cases e:slot o i<;>rw[e]at h<;>first|exact h.elim|exact⟨h,λz=>by cases z⟩
def Py(i:Nat)(h:QE X e re):QE X e (aoZ i re):=PE.imp h λσ H Q hP=>by
 obtain⟨own,o,R,h,hr,k⟩:=hP;obtain⟨hr,ne⟩:=YS (P:=λx=>re (o.set i (.fz (frz x))) λy=>flat y/\R y) hr;obtain⟨u,e1,s⟩:=h.val rfl ne;obtain⟨am,h',S⟩:=h.frz (gY rfl ne) e1;refine⟨am,_,_,h',hr,λH' v x q E n=>k H' v x q.2 E ?_⟩;have fl:=q.1;have rp:=n.rep λb z=>(h'.sole z).ne;cases x with
 |fz t=>cases t<;>first|exact fl.elim|(cases rp;first|exact NR.fz (.int _)|exact NR.fz (.bl _)|exact NR.fz (.str _)|exact NR.fz .non)
 |_=>exact fl.elim
def KC(i:Nat)(h:QT X e rt):QT X e (ala i rt):=PT.imp h λσ H Q hP=>by
 obtain⟨own,o,R,h,hr,k⟩:=hP;obtain⟨hr,ne⟩:=YS (P:=λx=>rt (o.set i (.fz (frz x))) R) hr;obtain⟨u,e1,s⟩:=h.val rfl ne;obtain⟨am,h',S⟩:=h.frz (gY rfl ne) e1;exact⟨am,_,_,h',hr,k⟩
def aas:T->Option Key
 |.int i=>some (.inl i)
 |.str s=>some (.inr s)
 |_=>none
def oG{α:Type} : xn->List α->Key->Option α
 |k::ks,t::ts,j=>if k=j then some t else oG ks ts j
 |_,_,_=>none
def Qm{F:Hp}{x:V}{k:Key}(h:Rep K F x t)(e:aas t=some k):x=kV k:=by
 cases h<;>cases e<;>rfl
theorem Eb{K:Frag}{F:Hp}{k:Key} : ∀{ks:xn}{xs:Ε}{ts:zn},bZ K F xs ts->(∀t,oG ks ts k=some t->∃x,JR (ks.zip xs) k=some x/\Rep K F x t)/\(oG ks ts k=none->JR (ks.zip xs) k=none)
 |[],_,_,_=>⟨λ_ z=>(nomatch z),λ_=>rfl⟩
 |_::_,_,_,.nil=>⟨λ_ z=>(nomatch z),λ_=>rfl⟩
 |j::ks,_,_,.cons a b=>by
  by_cases h:j=k
  .refine⟨λt z=>?_,λz=>?_⟩
   .unfold oG at z;rw[ZY h]at z;cases z;exact⟨_,Tj h,a⟩
   .unfold oG at z;rw[ZY h]at z;cases z
  .obtain⟨i1,i2⟩:=Eb (k:=k) (ks:=ks) b;refine⟨λt z=>?_,λz=>?_⟩
   .unfold oG at z;rw[ZZ h]at z;obtain⟨x,e,r⟩:=i1 t z;exact⟨x,(Ik h).trans e,r⟩
   .unfold oG at z;rw[ZZ h]at z;exact(Ik h).trans (i2 z)
def anT:zz
 |.dct ks ts,u,q=>∃k t,aas u=some k/\oG ks ts k=some t/\q (.fz t)
 |_,_,_=>False
def OJ(hu:X.A.units+1<cLine)(ha:QE X a ra)(hb:QE X b rb)(hs:agL b:=by exact λ_ _=>rfl):QE X (.Subscript a b pos) (rOp anT ra rb):=(aex hu ha hb hs).imp λσ H Q ⟨own,o,R,h,hr,k⟩=>tQ.mk h hr λH1 v x q E1 r1=>tQ.mk (h.same E1) q λH2 w y q E2 r2=>by
 have r1:=r1.same (bT E2)
 revert r1 q
 generalize frz x=t;intro q r1;cases t<;>try exact q.elim
 obtain⟨d,xs,rfl,e,l,r⟩:=r1.dctI;obtain⟨j,t,e1,e2,q⟩:=q;obtain⟨z,e3,r3⟩:=(Eb r).1 t e2;cases Qm r2 e1;exact⟨d,z,rfl,.inl ⟨_,_,cZ.rd e,rfl,e3.symm⟩,k H2 _ _ q (E1.trans E2) (NR.fz r3)⟩
def ahz(neg:Bool):zz
 |u,.dct ks ts,q=>∃k,aas u=some k/\q (.fz (.bl (xr neg (oG ks ts k).isSome)))
 |_,_,_=>False
def aco{neg:Bool}(h:tQ X.K (rOp (ahz neg) ra rb) σ H Q):(tQ X.K ra) σ H λy H1=>(tQ X.K rb) σ H1 λx H2=>∃a o,x=.ref a/\Fp H2 a y o/\Q (.bl (xr neg o.isSome)) H2:=by
 obtain⟨own,o,R,h,hr,k⟩:=h;refine tQ.mk h hr λH1 v x q E1 r1=>tQ.mk (h.same E1) q λH2 w y q E2 r2=>?_;have r1:=r1.same (bT E2)
 revert r2 q
 generalize frz y=t;intro q r2;cases t with
 |dct ks ts =>
  obtain⟨d,xs,rfl,e,l,r⟩:=r2.dctI;obtain⟨j,e1,q⟩:=q;cases Qm r1 e1;refine⟨d,_,rfl,.inl ⟨_,_,cZ.rd e,rfl,rfl⟩,?_⟩;have:(JR (ks.zip xs) j).isSome=(oG ks ts j).isSome:=by
   cases z:oG ks ts j with
   |none=>rw[(Eb r).2 z];rfl
   |some t=>obtain⟨x,e,_⟩:=(Eb r).1 t z;rw[e];rfl
  rw[this];exact k H2 _ _ q (E1.trans E2) (NR.fz (.bl _))
 |_=>cases frz x<;>exact q.elim
def agH{r:RE}{tt:TE}(i:∀σ H Q,tQ X.K r σ H Q->tt σ H Q){Q:Bool->Hp->Prop}(h:tQT X.K (rB r) σ H Q):tB tt σ H Q:=by
 obtain⟨own,o,R,h,hr,k⟩:=h;refine i σ H _ (tQ.mk h hr λH1 v x q E1 r1=>?_)
 revert r1 q
 generalize frz x=t;intro q r1;cases r1<;>try exact q.elim
 exact⟨_,rfl,k _ _ q E1⟩
def aaY(hu:X.A.units+1<cLine)(ha:QE X a ra)(hb:QE X b rb)(h1:behindInMarks .In b=false:=by rfl):QT X (.Compare a [.In] [b] pos) (rB (rOp (ahz false) ra rb)):=(acg (ajf hu ha hb) h1).imp λ_ _ _=>agH λ_ _ _=>aco (neg:=false)
def aaB(hu:X.A.units+1<cLine)(ha:QE X a ra)(hb:QE X b rb)(h1:behindInMarks .NotIn b=false:=by rfl):QT X (.Compare a [.NotIn] [b] pos) (rB (rOp (ahz true) ra rb)):=(acg (aaj hu ha hb) h1).imp λ_ _ _=>agH λ_ _ _=>aco (neg:=true)
def akl:RE:=λ_ q=>q (.d1 [] [])
def HX:QE X (.Dict [] [] pos) akl:=abA.imp λσ H Q ⟨own,o,R,h,hr,k⟩ p hp=>k _ _ _ hr (z0.upd hp) ⟨[p],λa ha=>(YR.mp ha) ▸ hp,p,[],rfl,rfl,bW,rfl,.nil⟩
def apG(i:Nat)(a b:RE):RS:=λE o=>match slot o i with|.d1 ks ts=>a o λy=>b o λk=>∃j,aas (frz k)=some j/\oG ks ts j=none/\ks.length<sizeLine/\ks.length=ts.length/\E.nx (o.set i (.d1 (ks++[j]) (ts++[frz y])))|_=>False
def lkF{α:Type} : Θ->List α->Str->Option α
 |k::ks,t::ts,f=>if k=f then some t else lkF ks ts f
 |_,_,_=>none
def Ig:Θ->Str->Θ
 |[],f=>[f]
 |k::ks,f=>if k=f then k::ks else k::Ig ks f
def z_{α:Type} : Θ->List α->Str->α->List α
 |k::ks,t::ts,f,v=>if k=f then v::ts else t::z_ ks ts f v
 |_,ts,_,v=>ts++[v]
theorem aby{K:Frag}{F:Hp}{f:Str} : ∀{ks:Θ}{xs:Ε}{ts:zn},bZ K F xs ts->(∀t,lkF ks ts f=some t->∃x,(ks.zip xs).lookup f=some x/\Rep K F x t)/\(lkF ks ts f=none->(ks.zip xs).lookup f=none)
 |[],_,_,_=>⟨λ_ z=>(nomatch z),λ_=>rfl⟩
 |_::_,_,_,.nil=>⟨λ_ z=>(nomatch z),λ_=>rfl⟩
 |j::ks,_,_,.cons a b=>by
  obtain⟨i1,i2⟩:=aby (f:=f) (ks:=ks) b;by_cases h:j=f
  .refine⟨λt z=>?_,λz=>?_⟩
   .unfold lkF at z;rw[ZY h]at z;cases z;exact⟨_,by rw[List.zip_cons_cons,List.lookup_cons,h,beq_self_eq_true],a⟩
   .unfold lkF at z;rw[ZY h]at z;cases z
  .have e:∀x(r:xt),((j,x)::r).lookup f=r.lookup f:=λx r=>by rw[List.lookup_cons,beq_false_of_ne (Ne.symm h)]
   refine⟨λt z=>?_,λz=>?_⟩
   .unfold lkF at z;rw[ZZ h]at z;obtain⟨x,e1,r⟩:=i1 t z;exact⟨x,(e _ _).trans e1,r⟩
   .unfold lkF at z;rw[ZZ h]at z;exact(e _ _).trans (i2 z)
theorem Te{f:Str}{v:V} : ∀{ks:Θ}{xs:Ε},ks.length=xs.length->vN f v (ks.zip xs)=(Ig ks f).zip (z_ ks xs f v)/\(Ig ks f).length=(z_ ks xs f v).length
 |[],[],_=>⟨rfl,rfl⟩
 |k::ks,x::xs,l=>by
  obtain⟨i1,i2⟩:=Te (f:=f) (v:=v) (ks:=ks) (xs:=xs) (Nat.succ.inj l);show(if k=f then(k,v)::ks.zip xs else(k,x)::vN f v (ks.zip xs))=_/\_;unfold Ig z_;by_cases h:k=f
  .rw[ZY h,ZY h,ZY h];exact⟨rfl,l⟩
  .rw[ZZ h,ZZ h,ZZ h,i1];exact⟨rfl,ZH (· + 1) i2⟩
 |[],_::_,l=>by cases l
 |_::_,[],l=>by cases l
theorem bZ.put{K:Frag}{F:Hp}{f:Str}{v:V}{t:T}(r:Rep K F v t):∀{ks:Θ}{xs:Ε}{ts:zn},bZ K F xs ts->bZ K F (z_ ks xs f v) (z_ ks ts f t)
 |[],_,_,h=>h.app (.cons r .nil)
 |_::_,_,_,.nil=>.cons r .nil
 |k::ks,_,_,.cons a b=>by
  unfold z_;by_cases h:k=f
  .rw[ZY h,ZY h];exact .cons r b
  .rw[ZZ h,ZZ h];exact .cons a (bZ.put r b)
abbrev SI:=Addr->Θ->zn->zn->(Θ->zn->Prop)->Prop
def Slf(a dx b:Addr):Prop:=b=a\/b=dx
def spI(K:Frag)(S:SI):Sp:=λvs H Q _=>∃a dx C ks xs ts us as R,vs=.ref a::us/\H a=some (.ins C dx (ks.zip xs))/\H dx=some (.own a)/\ks.length=xs.length/\bZ K (hd (Slf a dx) H) xs ts/\bZ K (hd (Slf a dx) H) us as/\S C ks ts as R /\
 ∀H' eI fc cx,R eI cx->z0 (hd (Slf a dx) H) (hd (Slf a dx) H')->H' a=some (.ins C dx (eI.zip fc))->H' dx=some (.own a)->eI.length=fc.length->bZ K (hd (Slf a dx) H') fc cx->Q .non H'
def startI(n:Nat)(a dx C:Addr)(ks:Θ)(ts as:zn):zC:=.ob a dx C ks ts::start' (n-1) as
def ams(a dx:Addr):zk
 |0=>[a,dx]
 |_+1=>[]
def Yb(a dx:Addr):Ow (ams a dx)=Slf a dx:=funext λb=>propext ⟨(λh=>by
  obtain⟨i,z⟩:=h;cases i with
  |zero =>
   rcases YU.mp z with z|z
   .exact .inl z
   .exact .inr (YR.mp z)
  |succ i=>cases z),λz=>⟨0,by show b∈[a,dx];rcases z with rfl|rfl<;>simp⟩⟩
def SR.startI{H:Hp}{a dx C:Addr}{ks:Θ}{xs:Ε}{ts as:zn}{us:Ε}(ha:H a=some (.ins C dx (ks.zip xs)))(bn:H dx=some (.own a))(l:ks.length=xs.length)(r:bZ K (hd (Slf a dx) H) xs ts)(r2:bZ K (hd (Slf a dx) H) us as)(N:Θ)(hN:us.length+1<=N.length) :
  SR K (ams a dx) H (L2.start N (.ref a::us)) (L2.startI N.length a dx C ks ts as):=by
 have eO:=Yb a dx;refine⟨?_,λi x e=>?_,λi hi b hb=>?_,λi j b e1 e2=>?_⟩
 .unfold L2.startI start' L2.start;have:=r2.len;simp only[List.length_cons,aA,ak,aN];lia
 .rw[eO];unfold L2.startI at e;cases i with
  |zero =>
   cases e;exact⟨xs,rfl,rfl,ha,bn,l,r⟩
  |succ i =>
   rw[List.getElem?_cons_succ]at e;show Slo K _ _ _ [] x;unfold start' at e;unfold L2.start;rw[List.map_cons,List.cons_append,List.getElem?_cons_succ];by_cases hi:i<as.length
   .rw[aF (by simpa using hi),aq,aj hi]at e;cases e;obtain⟨v,e1,r1⟩:=r2.at_ (aj hi);rw[aF (by rwa[ak,r2.len]),aq,e1];exact⟨rfl,v,rfl,r1⟩
   .rw[aD (by simpa using hi),ak,XG]at e;by_cases hj:i-as.length<N.length-1-as.length
    .rw[ZY hj]at e;cases e;rfl
    .rw[ZZ hj]at e;cases e
 .unfold L2.startI at hi;cases i with
  |zero=>cases hi
  |succ i=>cases hb
 .cases i with
  |zero =>
   cases j with
   |zero=>rfl
   |succ j=>cases e2
  |succ i=>cases e1
def Fun.okI{ah:Str}{N:Θ}{S:SI}(F:Fun K x ah st f fd)(sc:bK N ps (bG st))(len:∀C ks ts as R,S C ks ts as R->as.length+1=ps.length)(hn:ps.length<=N.length)
 (bg:∀(ai:Value)(A:Around)(outer:xl)(s:Shared)(H:Hp)(E:XK),dH k (A.deeper (envOfC ah (bG st) s.heap.objs.size f ai))->N.Nodup ->
   ∃r,QSs (Dg CX0 P w K mg base N ah (bG st) f ai A outer s H E).nox (fJ st) r/\∀a dx C ks ts as R,S C ks ts as R->r { nx:=λo=>∃eI cx,slot o 0=.ob a dx C eI cx/\R eI cx,rt:=λ_=>False } (startI N.length a dx C ks ts as)):d9 P w K mg base CX0 (k+1) f fd ps (spI K S):=by
 refine F.ok sc (λvs H Q E h=>?_) λai A outer s H vs Q E hr h=>?_
 .obtain⟨a,dx,C,ks,xs,ts,us,as,R,rfl,_,_,_,_,r2,hS,_⟩:=h;rw[List.length_cons,r2.len];exact len _ _ _ _ _ hS
 .obtain⟨a,dx,C,ks,xs,ts,us,as,R,rfl,ha,bn,l,r,r2,hS,q⟩:=h;obtain⟨rd,h1,h2⟩:=bg ai A outer s H E hr sc.nd;have s0:=SR.startI ha bn l r r2 N (by rwa[r2.len,len _ _ _ _ _ hS]);have eO:=Yb a dx;refine⟨_,h1,_,_,_,s0,h2 a dx C ks ts as R hS,⟨λown H' σ o rx E h=>?_,λ_ _ _ _ _ z=>z.elim,λ_ _ _ _ z=>z.elim,λ_ _ _ _ z=>z.elim,λ_ _ _ _ _ _ z=>z.elim⟩⟩;obtain⟨eI,cx,es,rx⟩:=rx;rw[eO]at E;obtain⟨u,_,fc,e1,e2,e3,e4,e5,e6⟩:=h.val es (by intro z;cases z);have sub:z0 (hd (Ow own) H') (hd (Slf a dx) H'):=gU (λb z=>.inl ⟨0,by rw[e2];rcases z with rfl|rfl<;>simp⟩) λ_ _ z=>z;exact q H' eI fc cx rx (E.trans sub) e3 e4 e5 (e6.same sub)
def agA(Fm:Addr->Prop)(i:Nat)(f:Str):RE:=λo q=>match slot o i with|.ob _ _ C ks ts=>Fm C/\∃t,lkF ks ts f=some t/\q (.fz t)|_=>False
variable{f:Str}{Fm:Addr->Prop}{S:ST}{ro:RE}{pl:Sem Bool}{j:Int}{bs:Φ}
def aew(i:Nat)(c:∀C,Fm C->Cls X.K C/\cg X.K C f)(hN:X.N[i]?=some x:=by rfl)(hv:o7 X.env.scope x=true:=by rfl)(bn:qk x:=by decide)(aI:qf x:=by decide)(hb:attributeBase (.Name x p) f X.env (eval (.Name x p) X.env)=eval (.Name x p) X.env:=by rfl):QE X (.Attribute (.Name x p) f pos) (agA Fm i f):=(abE (pv i hN hv bn aI) hb).imp λσ H Q hP=>by
 obtain⟨own,o,R,h,hr,k⟩:=hP;unfold agA at hr;cases es:slot o i with
 |ob a dx C ks ts =>
  rw[es]at hr;obtain⟨u,e1,xs,e2,e3,e4,e5,l,r⟩:=h.val es (by intro z;cases z);cases e2;obtain⟨hf,t,e6,q⟩:=hr;obtain⟨v,e7,r7⟩:=(aby r).1 t e6;exact⟨_,e1,a,C,dx,_,v,rfl,e4,(c C hf).1,(c C hf).2,e7,k H _ _ q (.refl _) (NR.fz r7)⟩
 |_=>rw[es]at hr;exact hr.elim
def agl(Fm:Addr->Prop)(i:Nat)(f:Str)(a:RE):RS:=λE o=>match slot o i with|.ob b dx C ks ts=>a o λy=>(Fm C/\ks.length<1000)/\E.nx (o.set i (.ob b dx C (Ig ks f) (z_ ks ts f (frz y))))|_=>False
def rD(i:Nat)(c:∀C,Fm C->Cls X.K C/\cg X.K C f)(he:QE X e re)(hN:X.N[i]?=some x:=by rfl)(hv:o7 X.env.scope x=true:=by rfl)(bn:qk x:=by decide)(aI:qf x:=by decide)(hs:swapsWith e (some (.Attribute (.Name x p) f aw)) pos.line X.env=pure false:=by rfl):QS X (.Assign [.Attribute (.Name x p) f aw] e pos) (agl Fm i f re):=(ait (pv i hN hv bn aI) he hs).imp λD σ H hP=>by
 obtain⟨own,o,E,h,hr,L⟩:=hP;unfold agl at hr;cases es:slot o i with
 |ob a dx C ks ts =>
  rw[es]at hr;obtain⟨u,e1,xs,e2,e3,e4,e5,l,r⟩:=h.val es (by intro z;cases z);cases e2;refine tQ.mk h hr λH1 v y q E1 r1=>⟨_,e1,a,C,dx,_,rfl,E1 _ _ e4,(c C q.1.1).1,(c C q.1.1).2,by rw[W1,<- l,VU];exact q.1.2,?_⟩;obtain⟨pz,pl⟩:=Te (f:=f) (v:=v) l;rw[pz];have fS:dx≠a:=Js e5 e4 (by intro z;cases z);obtain⟨h',S⟩:=(h.same E1).chg (gY es (by intro z;cases z)) (y:=.ob a dx C (Ig ks f) (z_ ks ts f (frz y))) (H':=upd H1 a (.ins C dx ((Ig ks f).zip (z_ ks xs f v)))) (λb u hb e=>(bU λz=>hb (by rw[e3,z];simp)).trans e) (by
   rw[e1,FJ ⟨i,by rw[e3];simp⟩];exact⟨_,rfl,e3,bW,(bU fS).trans (E1 _ _ e5),pl,bZ.put r1 (r.same (bT E1))⟩)
  exact L.nx own _ σ _ q.2 ((bT E1).trans S) h'
 |_=>rw[es]at hr;exact hr.elim
def apy(Fm:Addr->Prop)(f:Str)(a:RE):RE:=λo q=>a o λx=>match frz x with|.ins C ks ts=>Fm C/\∃t,lkF ks ts f=some t/\q (.fz t)|_=>False
def Al(c:∀C,Fm C->Cls X.K C/\cg X.K C f)(he:QE X e re)(hb:qB X e f:=by rfl):QE X (.Attribute e f pos) (apy Fm f re):=(abE he hb).imp λσ H Q ⟨own,o,R,h,hr,k⟩=>tQ.mk h hr λH1 v x q E1 r1=>by
 revert r1 q
 generalize frz x=t;intro q r1;cases t<;>try exact q.elim
 obtain⟨a,dx,xs,rfl,e,d,l,r⟩:=r1.insI;obtain⟨hf,t,e6,q⟩:=q;obtain⟨v,e7,r7⟩:=(aby r).1 t e6;exact⟨a,_,dx,_,v,rfl,(cT e).2,(c _ hf).1,(c _ hf).2,e7,k H1 _ _ q E1 (NR.fz r7)⟩
abbrev OkM(X:Cx)(k:Nat)(fa:Addr)(ps:Θ)(S:ST):Prop:=zd X CX0 k fa ps (spT X.K S)
def OkI.hid{P:Program}{w:World}{K:Frag}{mg:Str->Ψ}{base:Heap}{k:Nat}{fa:Addr}{ps:Θ}{sp:Sp}(G:OkI P w K mg base CX0 k fa ps sp):OkI P w K mg base CX0 k fa ps (spH sp):=by obtain⟨fd,F,b⟩:=G;exact⟨fd,F.hid,b⟩
def Ua{vs:Ε}{E:XK}(h1:SR X.K own H1 σ o)(r1:bZ X.K (hd (Ow own) H1) vs ts)(q:S ts R)(k:∀H' v x,R x->z0 H1 H'->NR X.K (Ow own) H1 H' v x->Q v H'):spH (spT X.K S) vs H1 Q E:=by
 refine⟨Ow own,h1.hid,ts,R,r1,q,λG v x rx E n a9=>?_⟩;have EH:z0 H1 (mrg (Ow own) H1 G):=λb u e=>by
  by_cases z:Ow own b
  .rw[uK z];exact e
  .rw[jV z];exact E b u ((cN z).trans e)
 have EG:z0 G (mrg (Ow own) H1 G):=λb u e=>by rw[jV λz=>by rw[a9 b z]at e;cases e];exact e
 refine k _ v x rx EH ?_;obtain⟨B,nb,s⟩:=n;have out:∀a∈B,¬Ow own a:=λa ha z=>(s.sole ha).ne (a9 a z);refine⟨B,λa ha=>by have:=nb a ha;rwa[cN (out a ha)]at this,s.same (gU (λb z=>?_) EG) EG⟩;rcases z with z|z
 .exact .inr (a9 b z)
 .exact .inl (.inr z)
def agt(C:Addr)(KS:Θ)(S:ST)(a:RE)(r:RA):RE:=λo q=>a o λx=>match frz x with|.ins C' ks ts=>(C'=C/\ks=KS)/\r o λas=>S (.ins C' ks ts::as) q|_=>False
theorem Hu{f:Str} : ∀{KS:Θ}{xs:Ε},f∉KS->(KS.zip xs).lookup f=none
 |[],_,_=>rfl
 |_::_,[],_=>rfl
 |k::KS,x::xs,h=>by
  rw[List.zip_cons_cons,List.lookup_cons,beq_false_of_ne λ(z:f=k)=>h (by rw[z];exact aO ..)];exact Hu λz=>h (aJ _ z)
def DQ{o:Expr}{fa C:Addr}{KS:Θ}(he:QE X o ro)(c:Cls X.K C)(hm:Meth X.K C f fa)(G:OkM X k fa ps S)(ha:QA X (e::es) r)(hr:dH k X.A:=by exact dH.mono (by assumption) wp)(hk:f∉KS:=by decide +kernel)
 (bu:qo X e es:=by rfl)(aE:qh X pos es:=by rfl)
 (ht:eval (.Call (.Attribute o f ag) (e::es) [] pos) X.env=(do
   let ov <- eval o X.env
   standAt ag.atName
   let(f,first) <- holding [ov] (getMethod ov f pl)
   callWith pos f first (backTo pos (starEach (e::es) X.env)) (backToKw pos (keywordEach [] X.env))):=by rfl) :
  QE X (.Call (.Attribute o f ag) (e::es) [] pos) (agt C KS S ro r):=(aa5 (pl:=pl) he c hm (OkI.hid G) hr ha bu aE ht).imp λσ H Q ⟨own,o,R,h,hr,k⟩=>tQ.mk h hr λH1 v x q E1 r1=>by
 revert r1 q
 generalize frz x=t;intro q r1;cases t<;>try exact q.elim
 obtain⟨a,dx,xs,rfl,e,d,l,r⟩:=r1.insI;obtain⟨⟨rfl,rfl⟩,q⟩:=q;refine⟨a,dx,_,rfl,(cT e).2,Hu hk,tQA.mk (h.same E1) q λH2 vs as q _ E2 r2=>?_⟩;exact Ua ((h.same E1).same E2) (.cons (r1.same (bT E2)) r2) q λH' v x rx E n=>k H' v x rx (E1.trans (E2.trans E)) (n.back (E1.trans E2))
def pW{o:Expr}{fa C:Addr}{KS:Θ}(he:QE X o ro)(c:Cls X.K C)(hm:Meth X.K C f fa)(G:OkM X k fa ps S)(hr:dH k X.A:=by exact dH.mono (by assumption) wp)(hk:f∉KS:=by decide +kernel)
 (ht:eval (.Call (.Attribute o f ag) [] [] pos) X.env=(do
   let ov <- eval o X.env
   standAt ag.atName
   let(f,first) <- holding [ov] (getMethod ov f pl)
   callWith pos f first (backTo pos (starEach [] X.env)) (backToKw pos (keywordEach [] X.env))):=by rfl) :
  QE X (.Call (.Attribute o f ag) [] [] pos) (agt C KS S ro aiY):=(Z2 (pl:=pl) he c hm (OkI.hid G) hr ht).imp λσ H Q ⟨own,o,R,h,hr,k⟩=>tQ.mk h hr λH1 v x q E1 r1=>by
 revert r1 q
 generalize frz x=t;intro q r1;cases t<;>try exact q.elim
 obtain⟨a,dx,xs,rfl,e,d,l,r⟩:=r1.insI;obtain⟨⟨rfl,rfl⟩,q⟩:=q;refine⟨a,dx,_,rfl,(cT e).2,Hu hk,?_⟩;exact Ua (E:=E0) (h.same E1) (.cons r1 .nil) q λH' v x rx E n=>k H' v x rx (E1.trans E) (n.back E1)
def amd(C:Addr)(S:SI)(r:RA):RE:=λo q=>r o λas=>S C [] [] as λks ts=>q (.fz (.ins C ks ts))
theorem DR{fa C:Addr}{S:SI}(M:Mk X.K C fa)(G:zd X CX0 k fa ps (spI X.K S))(hm:X.mg x=some (.ref C))(ha:QA X (e::es) r)(hr:dH (k+1) X.A:=by exact dH.mono (by assumption) wp)(hg:Gl X x:=by rfl)(bo:qk x:=by decide)
 (he:qo X e es:=by rfl)(aE:qh X pos es:=by rfl):QE X (.Call (.Name x p) (e::es) [] pos) (amd C S r):=(adP M (OkI.hid G) hr hg hm ha bo he aE).imp λσ H Q ⟨own,o,R,h,hr,k⟩=>tQA.mk h hr λH1 vs as q _ E1 r1 a dx na nd ne=>by
 have h1:=h.same E1;have E2:z0 H1 (upd (upd H1 dx (.own a)) a (.ins C dx [])):=(z0.upd nd).trans (z0.upd ((bU (Ne.symm ne)).trans na));have h2:=h1.same E2;have oa:¬Ow own a:=λz=>(h1.sole z).ne na;have od:¬Ow own dx:=λz=>(h1.sole z).ne nd;refine⟨Ow own,h2.hid,a,dx,C,[],[],[],vs,as,_,rfl,(cN oa).trans bW,(cN od).trans ((bU ne).trans bW),rfl,.nil,r1.same (λb u e=>?_),q,λG eI fc cx rx E ea ed l r a9=>⟨rfl,?_⟩⟩
 .obtain⟨n,e⟩:=cT e;have n2:¬Slf a dx b:=λz=>by rcases z with rfl|rfl<;>rw[e]at *<;>contradiction
  rw[cN n2,cN n];exact E2 _ _ e
 .have EG:z0 G (mrg (Ow own) (upd (upd H1 dx (.own a)) a (.ins C dx [])) G):=λb u e=>by rw[jV λz=>by rw[a9 b z]at e;cases e];exact e
  refine k _ _ _ rx (E1.trans λb u e=>?_) (NR.fz (.ins (dx:=dx) (ks:=eI) (xs:=fc) ?_ ?_ l (r.same λb u e=>?_)))
  .by_cases z:Ow own b
   .rw[uK z];exact E2 _ _ e
   .have n2:¬Slf a dx b:=λz=>by rcases z with rfl|rfl<;>rw[e]at *<;>contradiction
    exact EG _ _ (cT (E b u ((cN n2).trans ((cN z).trans (E2 _ _ e))))).2
  .rw[cN oa];exact EG _ _ ea
  .rw[cN od];exact EG _ _ ed
  .have e':=(cT e).2;rw[cN λz=>by rw[a9 b z]at e';cases e'];exact EG _ _ e'
def af9(i:Nat)(S:SI)(r:RA):RS:=λE o=>match slot o i with|.ob a dx C ks ts=>r o λas=>S C ks ts as λeI cx=>E.nx (o.set i (.ob a dx C eI cx))|_=>False
def Ht(i:Nat){y m:Str}{fa B:Addr}{S:SI}(c:Gj X.K B m fa)(G:zd X CX0 k fa ps (spI X.K S))(hm:X.mg x=some (.ref B))(ha:QA X es r)(hr:dH k X.A:=by exact dH.mono (by assumption) wp)(hg:Gl X x:=by rfl)
 (hN:X.N[i]?=some y:=by rfl)(hv:o7 X.env.scope y=true:=by rfl)(bn:qk y:=by decide)(aI:qf y:=by decide)(bo:qk x:=by decide)
 (bu:starEach (.Name y p2::es) X.env=(false,eval (.Name y p2) X.env)::starEach es X.env:=by rfl)(aE:qh X af es:=by rfl)
 (ht:eval (.Call (.Attribute (.Name x p) m ag) (.Name y p2::es) [] af) X.env=(do
   let ov <- eval (.Name x p) X.env
   standAt ag.atName
   let(f,first) <- holding [ov] (getMethod ov m pl)
   callWith af f first (backTo af (starEach (.Name y p2::es) X.env)) (backToKw af (keywordEach [] X.env))):=by rfl)
 (hs:swapsWith (.Call (.Attribute (.Name x p) m ag) (.Name y p2::es) [] af) none pos.line X.env=pure false:=by rfl) :
  QS X (.Expr (.Call (.Attribute (.Name x p) m ag) (.Name y p2::es) [] af) pos) (af9 i S r):=(k_ (acf (pl:=pl) c (OkI.hid G) hr hg hm (cQ (pv i hN hv bn aI) ha bu) bo bu aE ht) hs).imp λD σ H hP=>by
 obtain⟨own,o,E,h,hr,L⟩:=hP;unfold af9 at hr;cases es:slot o i with
 |ob a dx C ks ts =>
  rw[es]at hr;obtain⟨u,e1,xs,e2,e3,e4,e5,l,r⟩:=h.val es (by intro z;cases z);cases e2;refine⟨_,e1,tQA.mk h hr λH1 vs as q _ E1 r1=>?_⟩;have h1:=h.same E1;have sub:∀b,Slf a dx b->b∈own i:=λb z=>by rw[e3];rcases z with rfl|rfl<;>simp
  have bus:∀b,b∈own i->Slf a dx b:=λb z=>by
   rw[e3]at z;rcases YU.mp z with z|z
   .exact .inl z
   .exact .inr (YR.mp z)
  have hid:Hid H1 (λb=>Ow own b/\¬Slf a dx b):=⟨λb z=>h1.sole z.1,λb C d f ⟨⟨j,z⟩,n⟩ e=>⟨⟨j,(h1.mate z).1 C d f e⟩,λy=>n (bus b ((h1.dis j i d ((h1.mate z).1 C d f e) (sub d y)) ▸ z))⟩,λb x ⟨⟨j,z⟩,n⟩ e=>⟨⟨j,(h1.mate z).2 x e⟩,λy=>n (bus b ((h1.dis j i x ((h1.mate z).2 x e) (sub x y)) ▸ z))⟩⟩;have eqF:∀H':Hp,hd (Slf a dx) (hd (λb=>Ow own b/\¬Slf a dx b) H')=hd (Ow own) H':=λH'=>funext λb=>by
   by_cases z:Slf a dx b
   .rw[o_ z,o_ ⟨i,sub b z⟩]
   .rw[cN z];by_cases y:Ow own b
    .rw[o_ (⟨y,z⟩ : Ow own b/\¬Slf a dx b),o_ y]
    .rw[cN (λw=>y w.1),cN y]
  have na:¬(Ow own a/\¬Slf a dx a):=λz=>z.2 (.inl rfl);have nd:¬(Ow own dx/\¬Slf a dx dx):=λz=>z.2 (.inr rfl);refine⟨_,hid,a,dx,C,ks,xs,ts,vs,as,_,rfl,(cN na).trans (E1 _ _ e4),(cN nd).trans (E1 _ _ e5),l,by rw[eqF];exact r.same (bT E1),by rw[eqF];exact r1,q,λG eI fc cx rx EE ea ed l' r' a9=>?_⟩;rw[eqF]at EE;have dm:∀{b:Addr}{u:HO},G b=some u->mrg (λb=>Ow own b/\¬Slf a dx b) H1 G b=some u:=λ{b u}e=>(jV λz=>by rw[a9 b z]at e;cases e).trans e;obtain⟨h',S'⟩:=h1.chg (gY es (by intro z;cases z)) (y:=.ob a dx C eI cx) (H':=mrg (λb=>Ow own b/\¬Slf a dx b) H1 G) (λb u hb e=>by
   by_cases z:Ow own b
   .rw[uK ⟨z,λy=>hb (sub b y)⟩];exact e
   .exact dm (cT (EE b u ((cN z).trans e))).2) (by
   rw[e1];refine⟨fc,rfl,e3,dm ea,dm ed,l',r'.same λb u e=>?_⟩;obtain⟨n1,e⟩:=cT e;rw[cN λz=>by rw[a9 b ⟨z,n1⟩]at e;cases e];exact dm e)
  exact L.nx own _ σ _ rx ((bT E1).trans S') h'
 |_=>rw[es]at hr;exact hr.elim
def lU{A:Addr}{i:Int}(hm:X.mg x=some (.ref A))(kt:∀H,SqT X.K H A [.int i,.int j])(hg:Gl X x:=by rfl)(hd:qk x:=by decide):QE X (.Name x pos) (rC (.tup [.int i,.int j])):=qC (acV hg hm hd) λF=>.tup (kt F) (.cons (.int _) (.cons (.int _) .nil))
def QE.any{r:Addr->RE}(h:∀C,Fm C->QE X e (r C)):QE X e (λo q=>∃C,Fm C/\r C o q):=λaa s σ H Q I ⟨own,o,R,hs,⟨C,hC,hr⟩,k⟩=>h C hC aa s σ H Q I ⟨own,o,R,hs,hr,k⟩
def nU{py b7:Pos}:=@yk X tg iter a8 az ri g rc re scope pos i0 y0 py b7 (λi r n g c e=>agS i (W4 r n g c e)) λ{_ i0 _ _ _ _ _ _ _ _}⟨own,o,E,h,hr,L⟩=>Ja ⟨own,o,_,h,hr,λH' v y q S n=>by
 obtain⟨am,h',S'⟩:=h.putA S (n.frz λb z=>(h.sole z).ne) i0;exact L.nx am H' _ _ q S' h'⟩
def aoJ(i j:Nat)(r:RA):RS:=λE o=>r o λts=>match ts with|[t,u]=>E.nx ((o.set i (.fz t)).set j (.fz u))|_=>False
def aiy(i j:Nat){y:Str}{px py pt:Pos}{kt k2 pt2}(hc:X.calm=true)(hN:X.N.Nodup)(i7:i≠j)(ha:QA X [a,b] r)(hi:X.N[i]?=some x:=by rfl)(hj:X.N[j]?=some y:=by rfl)
 (hx:X.env.scope.names.lookup x=some .local:=by rfl)(hy:X.env.scope.names.lookup y=some .local:=by rfl)
 (hw:swappedStores [.Tuple [.Name x px,.Name y py] kt pt] (.Tuple [a,b] k2 pt2) X.env=pure (some [x,y]):=by rfl)
 (hs:swapsWithSole [.Tuple [.Name x px,.Name y py] kt pt] (.Tuple [a,b] k2 pt2) pos.line X.env=pure false:=by rfl) :
  QS X (.Assign [.Tuple [.Name x px,.Name y py] kt pt] (.Tuple [a,b] k2 pt2) pos) (aoJ i j r):=(ahS hc hN hi hj i7 hx hy ha hw hs).imp λD σ H ⟨own,o,E,h,hr,L⟩=>⟨own,o,_,h,hr,λH1 vs ts q _ E1 r1=>by
 match ts,q with
 |[t,u],q =>
  obtain⟨v,w,rfl,rv,mm⟩:=r1.two;refine⟨v,w,rfl,?_⟩;obtain⟨am,h',go⟩:=(h.same E1).setF rv (X0 i);obtain⟨bX,h2,S2⟩:=h'.putA (.refl _) (NR.fz (mm.same go.same)) j;exact L.nx bX H1 _ _ q ((bT E1).trans (go.same.trans S2)) h2⟩
def ix2{β:Type}{xs:List α}{ys:List β}{y:β}(l:xs.length=ys.length)(e:ixT ys j=some y):∃n x,ixN ys.length j=some n/\ys[n]?=some y/\xs[n]?=some x/\atI xs j=some x:=by
 rw[XQ]at e;unfold atI at e ⊢;rw[l];cases z:ixN ys.length j with
 |none=>rw[z]at e;cases e
 |some n =>
  rw[z]at e;have hn:n<xs.length:=l ▸ (ao.mp e).1;exact⟨n,xs[n],rfl,e,aj hn,aj hn⟩
theorem KJ{α:Type} : ∀{l:List α},l.Nodup->∀{i j:Nat}{x:α},l[i]?=some x->l[j]?=some x->i=j
 |[],_,_,_,_,e,_=>by cases e
 |y::l,nd,i,j,x,e1,e2=>by
  obtain⟨n1,n2⟩:=List.nodup_cons.mp nd;cases i with
  |zero =>
   cases j with
   |zero=>rfl
   |succ j=>cases e1;exact absurd (aC (by simpa using e2)) n1
  |succ i =>
   cases j with
   |zero=>cases e2;exact absurd (aC (by simpa using e1)) n1
   |succ j=>exact ZH (· + 1) (KJ n2 (by simpa using e1) (by simpa using e2))
def SR.l2{K:Frag}{own:zk}{H:Hp}{σ:L2.St}{o:zC}(h:SR K own H σ o){i:Nat}{tss:wq}(e:slot o i=.l2 tss):∃l bs,σ[i]?=some (some (.ref l))/\own i=l::bs/\(l::bs).Nodup/\H l=some (.lst (bs.map V.ref))/\bs.length=tss.length/\∀(i:Nat)b ts,bs[i]?=some b->tss[i]?=some ts->∃xs,H b=some (.lst xs)/\bZ K (hd (Ow own) H) xs ts:=by
 obtain⟨u,e1,l,bs,e2,e3,nd,e4,ln,r⟩:=h.val e (by intro z;cases z);cases e2;exact⟨l,bs,e1,e3,nd,e4,ln,r⟩
def SR.chg2(h:SR K own H σ o){tss:wq}(e:slot o i=.l2 tss){l b:Addr}{us:zn}(eσ:σ[i]?=some (some (.ref l)))(eo:own i=l::bs)(nd:(l::bs).Nodup)(e4:H l=some (.lst (bs.map V.ref)))(ln:bs.length=tss.length)(r:∀(i:Nat)b ts,bs[i]?=some b->tss[i]?=some ts->∃xs,H b=some (.lst xs)/\bZ K (hd (Ow own) H) xs ts)(eb:bs[n]?=some b)(ry:bZ K (hd (Ow own) H) ys us) :
  SR K own (upd H b (.lst ys)) σ (o.set i (.l2 (tss.set n us)))/\z0 (hd (Ow own) H) (hd (Ow own) (upd H b (.lst ys))):=by
 have bm:=aC eb;obtain⟨nl,nd'⟩:=List.nodup_cons.mp nd;refine h.chg (gY e (by intro z;cases z)) (λc u hc e=>(bU λz=>hc (by rw[eo,z];exact aJ _ bm)).trans e) ?_;rw[eσ,FJ ⟨i,by rw[eo];exact aJ _ bm⟩];refine⟨l,bs,rfl,eo,nd,(bU λ(z:l=b)=>nl (by rwa[z])).trans e4,by rw[WH];exact ln,λk c ts e1 e2=>?_⟩;by_cases z:k=n
 .subst z;rw[eb]at e1;cases e1;rw[UU (ln ▸ (ao.mp eb).1)]at e2;cases e2;exact⟨ys,bW,ry⟩
 .rw[VQ (Ne.symm z)]at e2;obtain⟨xs,q,rx⟩:=r k c ts e1 e2;refine⟨xs,(bU λy=>?_).trans q,rx⟩;have h1:=(ao.mp e1).1;have h2:=(ao.mp eb).1;exact z (KJ nd' e1 (by rw[eb,y]))
def V9{c:Addr}(e:atI bs j=some c):atI (bs.map V.ref) j=some (.ref c):=by
 have:atI (bs.map V.ref) j=(atI bs j).map V.ref:=by unfold atI;rw[ak];cases ixN bs.length j<;>simp
 rw[this,e];rfl
def agg(i:Nat)(a b:RE):RE:=λo q=>match slot o i with
 |.l2 tss=>a o λx=>(match frz x with|.int j=>∃ts,ixT tss j=some ts/\b o λy=>(match frz y with|.int m=>∃t,ixT ts m=some t/\q (.fz t)|_=>False)|_=>False)
 |_=>False
def aeE(i:Nat)(ha:QE X a ra)(hb:QE X b rb)(hN:X.N[i]?=some x:=by rfl)(hv:o7 X.env.scope x=true:=by rfl)(bn:qk x:=by decide)
 (aI:qf x:=by decide)(g7:pH a:=by exact λ_ _=>rfl)(hs:pH b:=by exact λ_ _=>rfl):QE X (.Subscript (.Subscript (.Name x p) a p2) b pos) (agg i ra rb):=(Jk vo (Jk vo (pv i hN hv bn aI) ha g7) hb hs).imp λσ H Q hP=>by
 obtain⟨own,o,R,h,hr,k⟩:=hP;unfold agg at hr;cases es:slot o i with
 |l2 tss =>
  rw[es]at hr;obtain⟨l,bs,e1,e3,nd,e4,ln,r⟩:=h.l2 es;refine⟨_,e1,tQ.mk h hr λH1 v x q E1 r1=>?_⟩
  revert r1 q
  generalize frz x=t;intro q r1;cases t<;>try exact q.elim
  cases r1;obtain⟨ts,ej,q⟩:=q;obtain⟨n,c,_,et,ec,ei⟩:=ix2 (xs:=bs) ln ej;obtain⟨xs,eq,rx⟩:=r n c ts ec et;refine⟨l,bs.map V.ref,_,.ref c,rfl,rfl,.of (E1 _ _ e4),?_,tQ.mk (h.same E1) q λH2 w y q E2 r2=>?_⟩
  .exact V9 ei
  .revert r2 q
   generalize frz y=t;intro q r2;cases t<;>try exact q.elim
   cases r2;obtain⟨t,em,q⟩:=q;obtain⟨z,e7,r7⟩:=rx.ix em;have bP:=E1.trans E2;exact⟨c,xs,_,z,rfl,rfl,.of (bP _ _ eq),e7,k H2 _ _ q bP (NR.fz (r7.same (bT bP)))⟩
 |_=>rw[es]at hr;exact hr.elim
def agf(i:Nat)(a b:RE):RS:=λE o=>match slot o i with
 |.l2 tss=>a o λx=>(match frz x with|.int j=>∃n ts,ixN tss.length j=some n/\tss[n]?=some ts/\ts.length<sizeLine/\b o λy=>E.nx (o.set i (.l2 (tss.set n (ts++[frz y]))))|_=>False)
 |_=>False
def ix3{β:Type}{xs:List α}{ys:List β}{y:β}(l:xs.length=ys.length)(e:ixN ys.length j=some n)(ey:ys[n]?=some y):∃x,xs[n]?=some x/\atI xs j=some x:=by
 have hn:n<xs.length:=l ▸ (ao.mp ey).1;exact⟨xs[n],aj hn,by unfold atI;rw[l,e];exact aj hn⟩
def Zc(i:Nat)(ha:QE X a ra)(he:QE X e re)(hN:X.N[i]?=some x:=by rfl)(hv:o7 X.env.scope x=true:=by rfl)(bn:qk x:=by decide)(aI:qf x:=by decide)(g7:pH a:=by exact λ_ _=>rfl)
 (hb:attributeBase (.Subscript (.Name x p) a p2) "append" X.env (eval (.Subscript (.Name x p) a p2) X.env)=eval (.Subscript (.Name x p) a p2) X.env:=by rfl)
 (hf:qr X af e:=by rfl)
 (hl:zw ag af:=by rfl)(bu:qo X e []:=by rfl)(hp:qh X af []:=by rfl)
 (hs:swapsWith (.Call (.Attribute (.Subscript (.Name x p) a p2) "append" ag) [e] [] af) none pos.line X.env=pure false:=by rfl) :
  QS X (.Expr (.Call (.Attribute (.Subscript (.Name x p) a p2) "append" ag) [e] [] af) pos) (agf i ra re):=(k_ (Xz (Jk vo (pv i hN hv bn aI) ha g7) (cQ he jB bu) hb hf hl bu hp) hs).imp λD σ H hP=>by
 obtain⟨own,o,E,h,hr,L⟩:=hP;unfold agf at hr;cases es:slot o i with
 |l2 tss =>
  rw[es]at hr;obtain⟨l,bs,e1,e3,nd,e4,ln,r⟩:=h.l2 es;refine⟨_,e1,tQ.mk h hr λH1 v x q E1 r1=>?_⟩
  revert r1 q
  generalize frz x=t;intro q r1;cases t<;>try exact q.elim
  cases r1;obtain⟨n,ts,en,et,sz,q⟩:=q;obtain⟨c,ec,ei⟩:=ix3 (xs:=bs) ln en et;obtain⟨xs,eq,rx⟩:=r n c ts ec et;refine⟨l,bs.map V.ref,_,.ref c,rfl,rfl,.of (E1 _ _ e4),V9 ei,c,xs,rfl,E1 _ _ eq,tQ.mk (h.same E1) q λH2 w y q E2 r2=>?_⟩;have bP:=E1.trans E2;refine⟨w,xs,rfl,bP _ _ eq,by rw[rx.len];exact sz,?_⟩;obtain⟨h',S⟩:=(h.same bP).chg2 es e1 e3 nd (bP _ _ e4) ln (λi b ts a c=>let⟨xs,p,q⟩:=r i b ts a c;⟨xs,bP _ _ p,q.same (bT bP)⟩) ec ((rx.same (bT bP)).app (.cons r2 .nil));exact L.nx own _ σ _ q ((bT bP).trans S) h'
 |_=>rw[es]at hr;exact hr.elim
def agB(i:Nat)(c a b:RE):RS:=λE o=>match slot o i with
 |.l2 tss=>c o λy=>a o λx=>(match frz x with|.int j=>∃n ts,ixN tss.length j=some n/\tss[n]?=some ts/\b o λz=>(match frz z with|.int m=>∃k,ixN ts.length m=some k/\E.nx (o.set i (.l2 (tss.set n (ts.set k (frz y)))))|_=>False)|_=>False)
 |_=>False
def af6(i:Nat)(he:QE X e re)(ha:QE X a ra)(hk:QE X b rb)(hN:X.N[i]?=some x:=by rfl)(hv:o7 X.env.scope x=true:=by rfl)(bn:qk x:=by decide)(aI:qf x:=by decide)(g7:pH a:=by exact λ_ _=>rfl)
 (hq:∀v,assign (.Subscript (.Subscript (.Name x p) a p2) b aw) X.env v=(do
   let ov <- holding [v] (eval (.Subscript (.Name x p) a p2) X.env)
   let iv <- holding [v,ov] (eval b X.env)
   standAt aw
   holding [v,ov,iv] (setItem ov iv v)
   release [v,ov,iv] []):=by intro _;rfl)
 (hs:swapsWithSole [.Subscript (.Subscript (.Name x p) a p2) b aw] e pos.line X.env=pure false:=by rfl)(hw:swappedStores [.Subscript (.Subscript (.Name x p) a p2) b aw] e X.env=pure none:=by rfl)
 (h1:(assignEach [.Subscript (.Subscript (.Name x p) a p2) b aw] X.env).map (·.2)=[assign (.Subscript (.Subscript (.Name x p) a p2) b aw) X.env]:=by rfl):QS X (.Assign [.Subscript (.Subscript (.Name x p) a p2) b aw] e pos) (agB i re ra rb):=(XD he (aa2 (Jk vo (pv i hN hv bn aI) ha g7) hk set_list hq) hs hw h1).imp λD σ H hP=>by
 obtain⟨own,o,E,h,hr,L⟩:=hP;unfold agB at hr;cases es:slot o i with
 |l2 tss =>
  rw[es]at hr;obtain⟨l,bs,e1,e3,nd,e4,ln,r⟩:=h.l2 es;refine tQ.mk h hr λH0 v0 y q E0' r0=>⟨_,e1,tQ.mk (h.same E0') q λH1 v x q E1 r1=>?_⟩
  revert r1 q
  generalize frz x=t;intro q r1;cases t<;>try exact q.elim
  cases r1;obtain⟨n,ts,en,et,q⟩:=q;obtain⟨c,ec,ei⟩:=ix3 (xs:=bs) ln en et;obtain⟨xs,eq,rx⟩:=r n c ts ec et;have E01:=E0'.trans E1;refine⟨l,bs.map V.ref,_,.ref c,rfl,rfl,.of (E01 _ _ e4),V9 ei,tQ.mk (h.same E01) q λH2 w z q E2 r2=>?_⟩
  revert r2 q
  generalize frz z=t;intro q r2;cases t<;>try exact q.elim
  cases r2;obtain⟨k,ek,q⟩:=q;have bP:=E01.trans E2;refine⟨c,xs,_,k,rfl,rfl,bP _ _ eq,by rw[rx.len];exact ek,?_⟩;obtain⟨h',S⟩:=(h.same bP).chg2 es e1 e3 nd (bP _ _ e4) ln (λi b ts a c=>let⟨xs,p,q⟩:=r i b ts a c;⟨xs,bP _ _ p,q.same (bT bP)⟩) ec (bZ.set (r0.same (bT (E1.trans E2))) k (rx.same (bT bP)));exact L.nx own _ σ _ q ((bT bP).trans S) h'
 |_=>rw[es]at hr;exact hr.elim
def ao9:zz
 |.str i,.str j,q=>q (.fz (.bl (!decide (j.cps.toList<i.cps.toList))))
 |_,_,_=>False
def ab5:GO X (compareOp .LtE) ao9:=aiF.imp λx y H Q hP=>by
 obtain⟨S,t,u,R,_,hx,hy,hg,k⟩:=hP;cases hx<;>try exact hg.elim
 cases hy<;>try exact hg.elim
 exact⟨_,_,rfl,rfl,k H _ _ hg (.refl _) (NR.fz (.bl _))⟩
def aer:GC X (.builtin "len") (g1 aoe):=.one Ov λS t x H Q R rx hg k=>by
 cases t<;>try exact hg.elim
 cases rx;exact⟨_,rfl,hg.1,k H _ _ hg.2 (.refl _) (NR.fz (.int _))⟩
def aoQ(a:RE):RI:=λo q=>a o λx=>match frz x with|.str s=>q (s.cps.toList.map λc=>.str ⟨#[c]⟩)|_=>False
def aio(he:QE X e re):QI X tg e (aoQ re):=(ai5 he).imp λσ H Q ⟨own,o,R,h,hr,k⟩=>tQ.mk h hr λH1 v x q E1 r1=>by
 revert r1 q
 generalize frz x=t;intro q r1;cases t<;>try exact q.elim
 cases r1;refine⟨_,rfl,k H1 _ _ q E1 λS H2 i _ SF=>⟨λhi=>show i=_ by simpa using hi,λt ht=>?_⟩⟩;rw[aq]at ht;cases z:(‹Str›.cps.toList)[i]? with
 |none=>rw[z]at ht;cases ht
 |some c =>
  rw[z]at ht;cases ht;refine⟨show i<_ by simpa using(ao.mp z).1,?_⟩;rintro x H3 ⟨rfl,c',e',rfl⟩;rw[<- Array.getElem?_toList,z]at e';cases e';exact⟨.refl _,.str _⟩
abbrev HG:=qE
variable{e:RE}{b:RS}{g:HG}{c:RT}{ks:xn}
theorem X_(h:α->T)(l:List α)(J:List α->zC->Prop)(st:∀as a bs o,l=as++a::bs->J as o->g (h a) o λo'=>b { E with nx:=J (as++[a]),ct:=J (as++[a]),bk:=E.nx } o')(fin:∀o,J l o->E.nx o):∀(bs as:List α)(o:zC),l=as++bs->J as o->vH g b E (bs.map h) o
 |[],as,o,e,j=>fin o (by rw[List.append_nil]at e;rwa[e])
 |a::bs,as,o,e,j=>⟨J (as++[a]),λo k=>X_ h l J st fin bs (as++[a]) o (by rw[e];simp) k,st as a bs o e j⟩
def fL(h:α->T)(l:List α)(J:List α->zC->Prop)(j:J [] o)(st:∀as a bs o,l=as++a::bs->J as o->g (h a) o λo'=>b { E with nx:=J (as++[a]),ct:=J (as++[a]),bk:=E.nx } o')(fin:∀o,J l o->E.nx o):vH g b E (l.map h) o:=X_ h l J st fin l [] o rfl j
theorem zP(J:Nat->zC->Prop):∀(xs:zn)(k:Nat){o:zC},J k o->(∀i t o,xs[i]?=some t->J (k+i) o->g t o λo'=>b { E with nx:=J (k+i+1),ct:=J (k+i+1),bk:=E.nx } o')->(∀o,J (k+xs.length) o->E.nx o)->vH g b E xs o
 |[],_,o,j,_,fin=>fin o j
 |t::ts,k,o,j,st,fin=>⟨J (k+1),λo z=>zP J ts (k+1) z (λi t o e z=>by
   have:=st (i+1) t o (by simpa using e) (by rw[show k+(i+1)=k+1+i by lia];exact z);rw[show k+(i+1)+1=k+1+i+1 by lia]at this;exact this) (λo z=>fin o (by rw[List.length_cons,show k+(ts.length+1)=k+1+ts.length by lia];exact z)),st 0 t o rfl j⟩
def mW(J:Nat->zC->Prop)(j:J 0 o)(st:∀k o,k<n->J k o->g (.int (k:Nat)) o λo'=>b { E with nx:=J (k+1),ct:=J (k+1),bk:=E.nx } o')(fin:∀o,J n o->E.nx o):vH g b E (rng 0 n) o:=by
 refine zP J (rng 0 n) 0 j (λi t o e z=>?_) λo z=>fin o (by rw[rng,ak,WP,UQ]at z;exact z);unfold rng at e;rw[aq]at e;by_cases hi:i<n
 .rw[VX hi]at e;cases e;rw[UQ]at z ⊢;have:=st i o hi z;show g (.int (0+((i:Nat):Int))) o _;rw[show(0:Int)+((i:Nat):Int)=((i:Nat):Int)by exact Int.zero_add _];exact this
 .rw[aM (by simpa using hi)]at e;cases e
def zH(h:α->T)(l:List α)(J:Nat->zC->Prop)(j:J 0 o)(st:∀k a o,l[k]?=some a->J k o->g (.tup [.int (k:Nat),h a]) o λo'=>b { E with nx:=J (k+1),ct:=J (k+1),bk:=E.nx } o')(fin:∀o,J l.length o->E.nx o):vH g b E (rE (l.map h)) o:=by
 refine zP J (rE (l.map h)) 0 j (λi t o e z=>?_) λo z=>fin o (by rw[rE,ak,UP,ak,UQ]at z;exact z);unfold rE at e;rw[aq]at e;by_cases hi:i<l.length
 .rw[aj (by simpa using hi),QU,VZ]at e;cases e;rw[UQ]at z ⊢;have:=st i _ o (aj hi) z;exact this
 .rw[aM (by simpa using hi)]at e;cases e
theorem comp_map(h:α->T)(f:α->T):∀(l:List α){q:zn->Prop},(∀a∈l,∀(N:T->Prop)(M:Prop),N (f a)->g (h a) o λo'=>c o' λb=>sw b (e o' λy=>N (frz y)) M)->q (l.map f)->iU g c e o (l.map h) q
 |[],_,_,k=>k
 |a::l,q,st,k=>⟨λy=>y=f a,False,λy z=>comp_map h f l (λa ha=>st a (aJ _ ha)) (z ▸ k),False.elim,st a (aO ..) (λy=>y=f a) False rfl⟩
theorem jo(h:α->T)(p:α->Bool)(f:α->T):∀(l:List α){q:zn->Prop},(∀a∈l,∀(N:T->Prop)(M:Prop),(p a=true->N (f a))->(p a=false->M)->g (h a) o λo'=>c o' λb=>sw b (e o' λy=>N (frz y)) M)->q ((l.filter p).map f)->iU g c e o (l.map h) q
 |[],_,_,k=>k
 |a::l,q,st,k=>⟨λy=>y=f a/\p a=true,p a=false,λy z=>jo h p f l (λa ha=>st a (aJ _ ha)) (by rw[List.filter_cons_of_pos z.2]at k;exact z.1 ▸ k),λz=>jo h p f l (λa ha=>st a (aJ _ ha)) (by rw[List.filter_cons_of_neg (by rw[z];decide)]at k;exact k),st a (aO ..) (λy=>y=f a/\p a=true) (p a=false) (λz=>⟨rfl,z⟩) id⟩
inductive ah4(R:α->T->Prop):List α->zn->Prop
 |nil:ah4 R [] []
 |cons {a:α}{t:T}{l:List α}{ts:zn} : R a t->ah4 R l ts->ah4 R (a::l) (t::ts)
def P0(f:Nat->T)(n:Nat)(st:∀k,k<n->∀(N:T->Prop)(M:Prop),N (f k)->g (.int (k:Nat)) o λo'=>c o' λb=>sw b (e o' λy=>N (frz y)) M)(k:q ((List.range n).map f)):iU g c e o (rng 0 n) q:=by
 refine comp_map (λk:Nat=>.int (0+k)) f (List.range n) (λa ha N M hN=>?_) k;have:=st a (List.mem_range.mp ha) N M hN;show g (.int (0+((a:Nat):Int))) o _;rw[show(0:Int)+((a:Nat):Int)=((a:Nat):Int)by exact Int.zero_add _];exact this
def zip_map{α β:Type}(h:α->T)(k:β->T)(xs:List α)(ys:List β):Gw (xs.map h) (ys.map k)=(xs.zip ys).map λp=>.tup [h p.1,k p.2]:=by
 unfold Gw;rw[List.zip_map,WS]
 rfl
def Ku(h:α->T)(xs:List α):rE (xs.map h)=xs.zipIdx.map λp=>.tup [.int (p.2:Nat),h p.1]:=by
 unfold rE;rw[List.zipIdx_map,WS]
 rfl
def Iv(ks:xn)(j:Key):Bool:=ks.any λk=>decide (k=j)
def kpK(ks:xn)(j:Key):xn:=if Iv ks j=true then ks else ks++[j]
def kpT(ks:xn)(ts:List α)(j:Key)(t:α):List α:=if Iv ks j=true then ks.zipWith (λk x=>if k=j then t else x) ts else ts++[t]
def abe{j:Key}(l:ks.length=xs.length):putK (ks.zip xs) j v=(kpK ks j).zip (kpT ks xs j v)/\(kpK ks j).length=(kpT ks xs j v).length:=by
 have any:∀{ks:xn}{xs:Ε},ks.length=xs.length->((ks.zip xs).any λkv=>decide (kv.1=j))=Iv ks j:=λ{ks}=>by
  induction ks with
  |nil=>intro xs _;rfl
  |cons k ks ih =>
   intro xs l;cases xs with
   |nil=>cases l
   |cons x xs=>rw[List.zip_cons_cons,List.any_cons,ih (Nat.succ.inj l)];rfl
 unfold putK kpK kpT;rw[any l];by_cases h:Iv ks j=true
 .rw[ZY h,ZY h,ZY h];refine⟨?_,by rw[TU,l,VU]⟩
  clear any h
  induction ks generalizing xs with
  |nil=>rfl
  |cons k ks ih =>
   cases xs with
   |nil=>cases l
   |cons x xs =>
    rw[List.zip_cons_cons,List.map_cons,ih (Nat.succ.inj l),List.zipWith_cons_cons,List.zip_cons_cons];by_cases h:k=j
    .rw[ZY h,ZY h]
    .rw[ZZ h,ZZ h]
 .rw[ZZ h,ZZ h,ZZ h];exact⟨by rw[List.zip_append l];rfl,by simp[l]⟩
def bZ.kp{F:Hp}{j:Key}(r:Rep K F v t)(h:bZ K F xs ts):bZ K F (kpT ks xs j v) (kpT ks ts j t):=by
 unfold kpT;by_cases z:Iv ks j=true
 .rw[ZY z,ZY z]
  clear z
  induction ks generalizing xs ts with
  |nil=>exact .nil
  |cons k ks ih =>
   cases h with
   |nil=>exact .nil
   |cons a b =>
    rw[List.zipWith_cons_cons,List.zipWith_cons_cons];refine .cons ?_ (ih b);by_cases y:k=j
    .rw[ZY y,ZY y];exact r
    .rw[ZZ y,ZZ y];exact a
 .rw[ZZ z,ZZ z];exact h.app (.cons r .nil)
def agI(i:Nat)(a b:RE):RS:=λE o=>match slot o i with|.d1 ks ts=>a o λy=>b o λk=>∃j,aas (frz k)=some j/\ks.length<sizeLine/\E.nx (o.set i (.d1 (kpK ks j) (kpT ks ts j (frz y))))|_=>False
def SR.d1{K:Frag}{own:zk}{H:Hp}{σ:L2.St}{o:zC}(h:SR K own H σ o){i:Nat}{ks:xn}{ts:zn}(e:slot o i=.d1 ks ts):∃l xs,σ[i]?=some (some (.ref l))/\own i=[l]/\H l=some (.dK (ks.zip xs))/\ks.length=xs.length/\bZ K (hd (Ow own) H) xs ts:=by
 obtain⟨u,e1,l,xs,e2,e3,e4,r⟩:=h.val e (by intro z;cases z);cases e2;exact⟨l,xs,e1,e3,e4,r⟩
variable{e b:Expr}{g:qE}{as:Φ}
def Ho(i:Nat)(hu:X.A.units+1<cLine)(he:QE X e re)(hb:QE X b rb)(hN:X.N[i]?=some x:=by rfl)(hv:o7 X.env.scope x=true:=by rfl)(bn:qk x:=by decide)(aI:qf x:=by decide)
 (hs:swapsWith e (some (.Subscript (.Name x p) b aw)) pos.line X.env=pure false:=by rfl):QS X (.Assign [.Subscript (.Name x p) b aw] e pos) (agI i re rb):=(adY hu (pv i hN hv bn aI) hb he hs).imp λD σ H hP=>by
 obtain⟨own,o,E,h,hr,L⟩:=hP;unfold agI at hr;cases es:slot o i with
 |d1 ks ts =>
  rw[es]at hr;obtain⟨l,xs,e1,e3,e4,ln,r⟩:=h.d1 es;refine tQ.mk h hr λH1 v y q E1 r1=>⟨_,e1,tQ.mk (h.same E1) q λH2 w z q E2 r2=>?_⟩;obtain⟨j,ek,sz,q⟩:=q;have bP:=E1.trans E2;cases Qm r2 ek;obtain⟨pk,pl⟩:=abe (j:=j) (v:=v) ln;have lz:(ks.zip xs).length<sizeLine:=by rw[W1,<- ln,VU];exact sz
  refine⟨l,_,rfl,.inl ⟨_,j,bP _ _ e4,rfl,lz,rfl⟩,?_⟩;rw[pk];obtain⟨h',S⟩:=(h.same bP).chg (gY es (by intro z;cases z)) (y:=.d1 (kpK ks j) (kpT ks ts j (frz y))) (H':=upd H2 l (.dK ((kpK ks j).zip (kpT ks xs j v)))) (λb u hb e=>(bU λz=>hb (by rw[e3,z];simp)).trans e) (by
   rw[e1,FJ ⟨i,by rw[e3];simp⟩];exact⟨l,_,rfl,e3,bW,pl,bZ.kp (r1.same (bT E2)) (r.same (bT bP))⟩)
  exact L.nx own _ σ _ q ((bT bP).trans S) h'
 |_=>rw[es]at hr;exact hr.elim
def agb(i:Nat)(a b:RE):RE:=λo q=>match slot o i with|.d1 ks ts=>a o λy=>b o λz=>∃j,aas (frz y)=some j/\q (.fz ((oG ks ts j).getD (frz z)))|_=>False
def Yd(i:Nat)(hu:X.A.units+1<cLine)(ha:QE X a ra)(hb:QE X b rb)(m:M2 X (.Name x p) "get" ag a b af:=by first|exact⟨rfl,rfl,rfl,rfl⟩|constructor<;>rfl)(hN:X.N[i]?=some x:=by rfl)(hv:o7 X.env.scope x=true:=by rfl)(bn:qk x:=by decide)(aI:qf x:=by decide) :
  QE X (.Call (.Attribute (.Name x p) "get" ag) [a,b] [] af) (agb i ra rb):=(adf hu (pv i hN hv bn aI) ha hb m).imp λσ H Q hP=>by
 obtain⟨own,o,R,h,hr,k⟩:=hP;unfold agb at hr;cases es:slot o i with
 |d1 ks ts =>
  rw[es]at hr;obtain⟨l,xs,e1,e3,e4,ln,r⟩:=h.d1 es;refine⟨_,e1,l,rfl,.inl ⟨_,.inl e4⟩,tQ.mk h hr λH1 v y q E1 r1=>tQ.mk (h.same E1) q λH2 w z q E2 r2=>?_⟩;obtain⟨j,ek,q⟩:=q;have bP:=E1.trans E2;cases Qm r1 ek;refine⟨_,Fp.k (bP _ _ e4),?_⟩;have r:=r.same (bT bP);cases z1:oG ks ts j with
  |none =>
   rw[z1]at q;rw[(Eb r).2 z1];exact k H2 _ _ q bP (NR.fz r2)
  |some t =>
   rw[z1]at q;obtain⟨u,e5,r5⟩:=(Eb r).1 t z1;rw[e5];exact k H2 _ _ q bP (NR.fz r5)
 |_=>rw[es]at hr;exact hr.elim
def kT:Key->T
 |.inl i=>.int i
 |.inr s=>.str s
def Zf(f:xn->zn->zn)(i n:Nat)(g:qE)(c:RT)(e:RE):RS:=λE o=>match slot o i with
 |.d1 ks ts=>ks.length<=sizeLine/\iU g c e (List.replicate n .und++o.set i (.fz (.dct ks ts))) (f ks ts) λus=>E.rt (.l1 us)
 |_=>False
def iW(J:Addr->Obj->xF->It)(te:TE):TI:=λσ H R=>te σ H λx H1=>∃a kvs,x=.ref a/\H1 a=some (.dK kvs)/\∀o,R (J a o kvs) (upd H1 a (.frz o (.dK kvs)))
abbrev ani:=Zf λks _=>ks.map kT
abbrev amv:=Zf λks ts=>(ks.zip ts).map λp=>.tup [kT p.1,p.2]
def aeV{a:Addr}{ob:Obj}{F:Hp}(l:ks.length=xs.length)(e:F a=some (.frz ob (.dK (ks.zip xs)))):Wlk K (Itk a ob (ks.zip xs)) F (ks.map kT):=λS H i _ SF=>by
 have eH:=(cT (SF _ _ e)).2;have lz:(ks.zip xs).length=ks.length:=by rw[W1,<- l,VU]
 refine⟨λhi=>⟨eH,by rw[lz];simpa using hi⟩,λt ht=>?_⟩;rw[aq]at ht;cases z:ks[i]? with
 |none=>rw[z]at ht;cases ht
 |some k =>
  rw[z]at ht;cases ht;have hi:=(ao.mp z).1;refine⟨⟨eH,by rwa[lz]⟩,?_⟩;rintro x H' ⟨rfl,k',y,e1,rfl⟩;rw[aj (by rwa[lz]),JU]at e1;rw[aj hi]at z;cases z;cases e1;refine⟨.refl _,?_⟩;cases ks[i]with
  |inl j=>exact .int _
  |inr s=>exact .str _
def aft{a:Addr}{ob:Obj}{F:Hp}(l:ks.length=xs.length)(e:F a=some (.frz ob (.dK (ks.zip xs))))(r:bZ K F xs ts):Wlk K (Itp a ob (ks.zip xs)) F ((ks.zip ts).map λp=>.tup [kT p.1,p.2]):=λS H i hs SF=>by
 have eH:=(cT (SF _ _ e)).2;have lt:=r.len;have lz:(ks.zip xs).length=ks.length:=by rw[W1,<- l,VU]
 have lz':(ks.zip ts).length=ks.length:=by rw[W1,<- lt,<- l,VU]
 refine⟨λhi=>⟨eH,by rw[ak,lz']at hi;rwa[lz]⟩,λt ht=>?_⟩;rw[aq]at ht;cases z:(ks.zip ts)[i]? with
 |none=>rw[z]at ht;cases ht
 |some q =>
  rw[z]at ht;cases ht;obtain⟨hi,z⟩:=ao.mp z;rw[JU]at z;subst z;rw[lz']at hi;obtain⟨y,ey,ry⟩:=r.at_ (aj (show i<ts.length by lia));refine⟨⟨eH,by rwa[lz]⟩,?_⟩;rintro x H' ⟨k',y',t,e1,n,rfl,rfl⟩;rw[aj (by rwa[lz]),JU]at e1;rw[aj (aR hi (WG l))]at ey;cases ey;cases e1;refine⟨z0.upd n,.tup (.of (VL n hs)) (.cons ?_ (.cons (ry.same (SF.trans (bT (z0.upd n)))) .nil))⟩;cases ks[i]with
  |inl j=>exact .int _
  |inr s=>exact .str _
def Yc{J:Addr->Obj->xF->It}{f:xn->zn->zn}(i:Nat)(pi:PI X tg iter (iW J (aiV i)))(wk:∀{a ob ks xs ts F},ks.length=xs.length->F a=some (.frz ob (.dK (ks.zip xs)))->bZ X.K F xs ts->Wlk X.K (J a ob (ks.zip xs)) F (f ks ts)/\(f ks ts).length=ks.length)(sc:Scope)(N N' xs:Θ)(hg:∀{C s₀ H₀ ex pn},QG (X.compG N' scope xs C s₀ H₀ ex pn) xs.length tg g)(ht:∀{C s₀ H₀ ex pn},QTs (X.compG N' scope xs C s₀ H₀ ex pn) az rc)(he:∀{C s₀ H₀ ex pn},QE (X.compG N' scope xs C s₀ H₀ ex pn) a8 re)
 (b9:X.env.scope=sc:=by rfl)(cc:X.N=N:=by rfl)(hc:X.calm=true:=by rfl)(hk:scope.kind=.function:=by rfl)(h:CK sc scope N N' xs:=by decide +kernel)(hs:qV X iter) :
  QS X (.Return (some (.ListComp a8 [⟨tg,iter,az,0⟩] scope af)) pos) (Zf f i xs.length g rc re):=(O8 (aaU (gt:=tQG X.K xs.length g) (tc:=tQT X.K rc) (te:=tQ X.K re) sc N N' xs pi hg ht he b9 cc hc hk h hs)).imp λD σ H hP=>by
 obtain⟨own,o,E,h,hr,L⟩:=hP;unfold Zf at hr;cases es:slot o i with
 |d1 ks ts =>
  rw[es]at hr;obtain⟨l,ys,e1,e3,e4,ln,r⟩:=h.d1 es;refine⟨_,e1,l,_,rfl,e4,λob DD nD=>?_⟩;have eo:∀b,Ow (own1 own i []) b->Ow own b/\b≠l:=λb hP=>by
   obtain⟨j,z⟩:=hP;by_cases y:j=i
   .rw[y,jf]at z;cases z
   .rw[eN y]at z;exact⟨⟨j,z⟩,λw=>y (h.dis j i b z (by rw[e3,w];simp))⟩
  have nl:¬Ow (own1 own i []) l:=λz=>(eo l z).2 rfl;have ol:Ow own l:=⟨i,by rw[e3];simp⟩;have S1:z0 (hd (Ow own) H) (hd (Ow (own1 own i [])) (upd H l (.frz ob (.dK (ks.zip ys))))):=λb u e=>by
   obtain⟨n,e⟩:=cT e;rw[cN λz=>n (eo b z).1,bU λ(z:b=l)=>n (z.symm ▸ ol)];exact e
  have h1:SR X.K (own1 own i []) (upd H l (.frz ob (.dK (ks.zip ys)))) σ (o.set i (.fz (.dct ks ts))):=by
   have hi:i<o.length:=(ao.mp (gY es (by intro z;cases z))).1;refine⟨by rw[WH,h.len],λj y e'=>?_,λj hj a ha=>?_,λj k a z1 z2=>?_⟩
   .by_cases z:j=i
    .subst z;rw[UU hi]at e';cases e';rw[jf,e1];exact⟨rfl,_,rfl,.dct (.inr ⟨ob,by rw[cN nl];exact bW⟩) ln (r.same S1)⟩
    .rw[VQ (Ne.symm z)]at e';rw[eN z];exact((h.sl j y e').same S1 (.refl _)).off λb hb u e=>(bU λw=>z (h.dis j i b hb (by rw[e3,w];simp))).trans e
   .rw[WH]at hj;rw[eN wo]at ha;obtain⟨xs,e⟩:=h.out j hj a ha;exact⟨xs,(bU λw=>by have:=h.dis j i a ha (by rw[e3,w];simp);lia).trans e⟩
   .by_cases z:j=i
    .rw[z,jf]at z1;cases z1
    by_cases y:k=i
    .rw[y,jf]at z2;cases z2
    .rw[eN z]at z1;rw[eN y]at z2;exact h.dis j k a z1 z2
  have L1:=L.step S1;obtain⟨wk,wl⟩:=wk ln (by rw[cN nl];exact bW) (r.same S1);refine Uw h1 wk (by rw[wl];exact hr.1) hr.2 nD λH' v y rx E n=>?_;obtain⟨B,nb,s⟩:=n;exact L1.rt _ H' v y B rx (gU (λb z=>z.imp id (nb b)) E) s λa ha=>.inr ha
 |_=>rw[es]at hr;exact hr.elim
def afp(i:Nat)(sc:Scope)(N N' xs:Θ)(hg:∀{C s₀ H₀ ex pn},QG (X.compG N' scope xs C s₀ H₀ ex pn) xs.length tg g)(ht:∀{C s₀ H₀ ex pn},QTs (X.compG N' scope xs C s₀ H₀ ex pn) az rc)(he:∀{C s₀ H₀ ex pn},QE (X.compG N' scope xs C s₀ H₀ ex pn) a8 re)
 (hN:X.N[i]?=some x:=by rfl)(hv:o7 X.env.scope x=true:=by rfl)(bn:qk x:=by decide)(aI:qf x:=by decide)
 (b9:X.env.scope=sc:=by rfl)(cc:X.N=N:=by rfl)(hc:X.calm=true:=by rfl)(hk:scope.kind=.function:=by rfl)(h:CK sc scope N N' xs:=by decide +kernel)(hs:∀z,foldedSetIterable (.Name x p) X.env z=pure z:=by intro _;rfl) :
  QS X (.Return (some (.ListComp a8 [⟨tg,.Name x p,az,0⟩] scope af)) pos) (ani i xs.length g rc re):=Yc i (afz (tg:=tg) (pv i hN hv bn aI)) (λl e _=>⟨aeV l e,by rw[ak]⟩) sc N N' xs hg ht he b9 cc hc hk h hs
def aeo{im:Pos}{x1}(i:Nat)(sc:Scope)(N N' xs:Θ)(hg:∀{C s₀ H₀ ex pn},QG (X.compG N' scope xs C s₀ H₀ ex pn) xs.length (.Tuple bi x1 aw) g)(ht:∀{C s₀ H₀ ex pn},QTs (X.compG N' scope xs C s₀ H₀ ex pn) az rc)(he:∀{C s₀ H₀ ex pn},QE (X.compG N' scope xs C s₀ H₀ ex pn) a8 re)
 (hN:X.N[i]?=some x:=by rfl)(hv:o7 X.env.scope x=true:=by rfl)(bn:qk x:=by decide)(aI:qf x:=by decide)(hb:attributeBase (.Name x p) "items" X.env (eval (.Name x p) X.env)=eval (.Name x p) X.env:=by rfl)(hn:zw ag im:=by rfl)
 (b9:X.env.scope=sc:=by rfl)(cc:X.N=N:=by rfl)(hc:X.calm=true:=by rfl)(hk:scope.kind=.function:=by rfl)(h:CK sc scope N N' xs:=by decide +kernel)(hs:∀z,foldedSetIterable (.Call (.Attribute (.Name x p) "items" ag) [] [] im) X.env z=pure z:=by intro _;rfl) :
  QS X (.Return (some (.ListComp a8 [⟨.Tuple bi x1 aw,.Call (.Attribute (.Name x p) "items" ag) [] [] im,az,0⟩] scope af)) pos) (amv i xs.length g rc re):=Yc i (ac0 (pv i hN hv bn aI) hb hn) (λl e r=>⟨aft l e r,by rw[ak,W1,l,r.len,VU]⟩) sc N N' xs hg ht he b9 cc hc hk h hs
def ahT(K:Frag)(as:Φ)(H:Hp)(tss:wq):Prop:=tss.length=as.length/\∀(j:Nat)a ts,as[j]?=some a->tss[j]?=some ts->∃xs,H a=some (.lst xs)/\bZ K (hd (· ∈ as) H) xs ts
abbrev SO:=wq->zn->(wq->Prop)->Prop
def spO(K:Frag)(S:SO):Sp:=λvs H Q _=>∃(as:Φ)(tss:wq)(us:Ε)(ts:zn)(R:wq->Prop),vs=as.map V.ref++us/\as.Nodup/\ahT K as H tss/\bZ K (hd (· ∈ as) H) us ts/\S tss ts R /\
 ∀H' bj,R bj->z0 (hd (· ∈ as) H) (hd (· ∈ as) H')->ahT K as H' bj->Q .non H'
def ownL(as:Φ)(i:Nat):Φ:=match as[i]? with|some a=>[a]|none=>[]
def Hr{b:Addr}(h:b∈ownL as i):as[i]?=some b:=by
 unfold ownL at h;cases e:as[i]? with
 |none=>rw[e]at h;cases h
 |some a=>rw[e]at h;cases YR.mp h;rfl
def Y4{b:Addr}(h:as[i]?=some b):ownL as i=[b]:=by unfold ownL;rw[h]
def Ow.ownL(as:Φ):Ow (L2.ownL as)=(· ∈ as):=funext λb=>propext ⟨λ⟨i,z⟩=>aC (Hr z),λz=>by
 obtain⟨i,e⟩:=aV z;exact⟨i,by rw[Y4 e];simp⟩⟩
def startO(n:Nat)(as:Φ)(tss:wq)(ts:zn):zC:=List.zipWith OT.la as tss++start' (n-as.length) ts
def SR.startO{H:Hp}{as:Φ}{tss:wq}{us:Ε}{ts:zn}(nd:as.Nodup)(h:ahT K as H tss)(r:bZ K (hd (· ∈ as) H) us ts)(N:Θ)(hN:as.length+us.length<=N.length):SR K (ownL as) H (L2.start N (as.map V.ref++us)) (L2.startO N.length as tss ts):=by
 have zl:(List.zipWith OT.la as tss).length=as.length:=by rw[TU,h.1,VU]
 refine⟨?_,λi x e=>?_,λi hi b hb=>?_,λi j b e1 e2=>KJ nd (Hr e1) (Hr e2)⟩
 .unfold L2.startO start' L2.start;have:=r.len;simp only[aA,ak,aN,zl];lia
 .rw[Ow.ownL];unfold L2.startO at e;unfold L2.start;by_cases hi:i<as.length
  .rw[aF (by rwa[zl]),List.getElem?_zipWith]at e;have ea:=aj hi;have et:=aj (l:=tss) (by rwa[h.1]);rw[ea,et]at e;cases e;rw[Y4 ea,aF (by simp;exact WV _ hi),aq,aF (by simpa using hi),aq,ea];obtain⟨xs,q,rx⟩:=h.2 i _ _ ea et;exact⟨xs,rfl,rfl,q,rx⟩
  .have on:ownL as i=[]:=by unfold ownL;rw[aM (Nat.not_lt.mp hi)]
   rw[on];rw[aD (by rw[zl];exact Nat.not_lt.mp hi),zl]at e;unfold start' at e;by_cases hj:i-as.length<ts.length
   .rw[aF (by simpa using hj),aq,aj hj]at e;cases e;obtain⟨v,e1,r1⟩:=r.at_ (aj hj);have:=r.len;rw[aF (by simp;lia),aq,aD (by simpa using Nat.not_lt.mp hi),ak,e1];exact⟨rfl,v,rfl,r1⟩
   .rw[aD (by simpa using hj),ak,XG]at e;split at e
    .cases e;rfl
    .cases e
 .unfold L2.startO at hi;rw[aA,zl]at hi;have:=(ao.mp (Hr hb)).1;lia
theorem slot_of:∀{o:zC}{i:Nat}{x:OT},o[i]?=some x->slot o i=x
 |[],_,_,e=>by cases e
 |_::_,0,_,e=>by cases e;rfl
 |_::l,i+1,x,e=>slot_of (o:=l) (by simpa using e)
variable{S:SO}{p1:Pos}
def Fun.okO{ah:Str}{f:Addr}{N:Θ}(F:Fun K x ah st f fd)(sc:bK N ps (bG st))(len:∀tss ts R,S tss ts R->tss.length+ts.length=ps.length)(hn:ps.length<=N.length)
 (bg:∀(ai:Value)(A:Around)(outer:xl)(s:Shared)(H:Hp)(E:XK),dH k (A.deeper (envOfC ah (bG st) s.heap.objs.size f ai))->N.Nodup ->
   ∃r,QSs (Dg CX0 P w K mg base N ah (bG st) f ai A outer s H E).nox (fJ st) r/\∀as tss ts R,tss.length=as.length->S tss ts R->r { nx:=λo=>∃bj,(∀j,slot o j=slot (List.zipWith OT.la as bj) j\/as.length<=j)/\bj.length=as.length/\R bj,rt:=λ_=>False } (startO N.length as tss ts)):d9 P w K mg base CX0 (k+1) f fd ps (spO K S):=by
 refine F.ok sc (λvs H Q E h=>?_) λai A outer s H vs Q E hr h=>?_
 .obtain⟨as,tss,us,ts,R,rfl,_,l,r,hS,_⟩:=h;rw[aA,ak,<- l.1,r.len];exact len _ _ _ hS
 .obtain⟨as,tss,us,ts,R,rfl,nd,l,r,hS,q⟩:=h;obtain⟨rd,h1,h2⟩:=bg ai A outer s H E hr sc.nd;have s0:=SR.startO nd l r N (by rwa[<- l.1,r.len,len _ _ _ hS]);refine⟨_,h1,_,_,_,s0,h2 as tss ts R l.1 hS,⟨λown H' σ o rx E h=>?_,λ_ _ _ _ _ z=>z.elim,λ_ _ _ _ z=>z.elim,λ_ _ _ _ z=>z.elim,λ_ _ _ _ _ _ z=>z.elim⟩⟩;obtain⟨bj,es,tl,rx⟩:=rx;rw[Ow.ownL]at E;have ci:∀(j:Nat)a t,as[j]?=some a->bj[j]?=some t->slot o j=.la a t:=λj a t e1 e2=>by
   rcases es j with z|z
   .rw[z];exact slot_of (by rw[List.getElem?_zipWith,e1,e2])
   .exact absurd (ao.mp e1).1 (Nat.not_lt.mpr z)
  have sub:z0 (hd (Ow own) H') (hd (· ∈ as) H'):=gU (λb z=>.inl (by
   obtain⟨j,e⟩:=aV z;have lj:j<bj.length:=tl ▸ (ao.mp e).1;obtain⟨u,_,xs,_,e3,_⟩:=h.val (ci j b _ e (aj lj)) (by intro z;cases z);exact⟨j,by rw[e3];simp⟩)) λ_ _ z=>z
  refine q H' bj rx (E.trans sub) ⟨tl,λj a t e1 e2=>?_⟩;obtain⟨u,_,xs,_,_,e4,r4⟩:=h.val (ci j a t e1 e2) (by intro z;cases z);exact⟨xs,e4,r4.same sub⟩
def acH(h:SR K own H σ o)(hs:∀a∈as,∃j,own j=[a]):Hid H (λb=>Ow own b/\b∉as)/\∀H':Hp,hd (· ∈ as) (hd (λb=>Ow own b/\b∉as) H')=hd (Ow own) H':=by
 have in1:∀{b x:Addr}{j:Nat},b∈own j->b∉as->x∈own j->x∉as:=λ{b x j}hb n hx z=>by
  obtain⟨k,ek⟩:=hs x z;have:=h.dis j k x hx (by rw[ek];simp);subst this;rw[ek]at hb hx;cases YR.mp hb;exact n z
 refine⟨⟨λb z=>h.sole z.1,λb C d f ⟨⟨j,z⟩,n⟩ e=>⟨⟨j,(h.mate z).1 C d f e⟩,in1 z n ((h.mate z).1 C d f e)⟩,λb x ⟨⟨j,z⟩,n⟩ e=>⟨⟨j,(h.mate z).2 x e⟩,in1 z n ((h.mate z).2 x e)⟩⟩,λH'=>funext λb=>?_⟩;by_cases z:b∈as
 .obtain⟨k,ek⟩:=hs b z;rw[o_ z,o_ ⟨k,by rw[ek];simp⟩]
 .rw[cN z];by_cases y:Ow own b
  .rw[o_ (⟨y,z⟩ : Ow own b/\b∉as),o_ y]
  .rw[cN (λw=>y w.1),cN y]
def ao7(i:Nat)(S:SO)(r:RA):RS:=λE o=>onL (slot o i) λts c=>r o λas=>S [ts] as λtss=>match tss with|[t]=>E.nx (o.set i (c t))|_=>False
def ahM(i:Nat){y:Str}(G:OkF X.prog X.w X.K X.mg X.base k x ps (spO X.K S))(ha:QA X es r)(hr:dH k X.A:=by exact dH.mono (by assumption) wp)(hg:Gl X x:=by rfl)(hN:X.N[i]?=some y:=by rfl)(hv:o7 X.env.scope y=true:=by rfl)(bn:qk y:=by decide)(aI:qf y:=by decide)(bo:qk x:=by decide)
 (he:starEach (.Name y p1::es) X.env=(false,eval (.Name y p1) X.env)::starEach es X.env:=by rfl)(aE:qh X af es:=by rfl)(hs:swapsWith (.Call (.Name x p) (.Name y p1::es) [] af) none pos.line X.env=pure false:=by rfl):QS X (.Expr (.Call (.Name x p) (.Name y p1::es) [] af) pos) (ao7 i S r):=by
 obtain⟨f,fd,F,b,hm,kp⟩:=G;refine(k_ (K5 (sp:=spH (spO X.K S)) ⟨f,fd,F.hid,b,hm,kp⟩ hr hg (cQ (pv i hN hv bn aI) ha he) bo he aE) hs).imp λD σ H hP=>?_;obtain⟨own,o,E,h,hr,L⟩:=hP;obtain⟨ts,c,hr,es⟩:=Ep hr;obtain⟨l,xs,e1,e2,e3,r0,sl⟩:=h.l1 es;refine⟨_,e1,tQA.mk h hr λH1 vs as q _ E1 r1=>?_⟩;have h1:=h.same E1;obtain⟨hid,eqF⟩:=acH h1 (as:=[l]) λa ha=>⟨i,by rwa[YR.mp ha]⟩;have nl:¬(Ow own l/\l∉[l]):=λz=>z.2 wr;refine⟨_,hid,[l],[ts],vs,as,_,rfl,by simp,⟨rfl,λj a t ea et=>?_⟩,by rw[eqF];exact r1,q,λG bj rx EE ls a9=>?_⟩
 .cases j with
  |zero=>cases ea;cases et;exact⟨xs,(cN nl).trans (E1 _ _ e3),by rw[eqF];exact r0.same (bT E1)⟩
  |succ j=>cases ea
 .match bj,rx,ls with
  |[t],rx,ls =>
   obtain⟨ys,ey,ry⟩:=ls.2 0 l t rfl rfl;rw[eqF]at EE;have dm:∀{b:Addr}{u:HO},G b=some u->mrg (λb=>Ow own b/\b∉[l]) H1 G b=some u:=λ{b u}e=>(jV λz=>by rw[a9 b z]at e;cases e).trans e;obtain⟨x,ex⟩:=Kp es;obtain⟨h',S'⟩:=h1.chg ex (y:=c t) (H':=mrg (λb=>Ow own b/\b∉[l]) H1 G) (λb u hb e=>by
    by_cases z:Ow own b
    .rw[uK ⟨z,λy=>hb (by rwa[e2])⟩];exact e
    .exact dm (cT (EE b u ((cN z).trans e))).2) (by
    rw[e1,e2];refine sl _ ys t (dm ey) (ry.same λb u e=>?_);obtain⟨n1,e⟩:=cT e;rw[cN λz=>by rw[a9 b ⟨z,n1⟩]at e;cases e];exact dm e)
   exact L.nx own _ σ _ rx ((bT E1).trans S') h'
def aou(i j:Nat)(S:SO)(r:RA):RS:=λE o=>onL (slot o i) λts c=>onL (slot o j) λus d=>r o λas=>S [ts,us] as λtss=>match tss with|[t,u]=>E.nx ((o.set i (c t)).set j (d u))|_=>False
def Kq(i j:Nat){y z:Str}(G:OkF X.prog X.w X.K X.mg X.base k x ps (spO X.K S))(hr:dH k X.A)(hg:Gl X x)(ha:QA X es r)(i7:i≠j:=by decide)(hN:X.N[i]?=some y:=by rfl)(hv:o7 X.env.scope y=true:=by rfl)(bn:qk y:=by decide)(aI:qf y:=by decide)(hN2:X.N[j]?=some z:=by rfl)(mT:o7 X.env.scope z=true:=by rfl)(oC:qk z:=by decide)(oQ:qf z:=by decide)(bo:qk x:=by decide)
 (he:starEach (.Name y p1::.Name z p2::es) X.env=(false,eval (.Name y p1) X.env)::starEach (.Name z p2::es) X.env:=by rfl)(he2:starEach (.Name z p2::es) X.env=(false,eval (.Name z p2) X.env)::starEach es X.env:=by rfl)(aE:(backTo af (starEach (.Name z p2::es) X.env)).any (·.1)=false:=by rfl)(hs:swapsWith (.Call (.Name x p) (.Name y p1::.Name z p2::es) [] af) none pos.line X.env=pure false:=by rfl):QS X (.Expr (.Call (.Name x p) (.Name y p1::.Name z p2::es) [] af) pos) (aou i j S r):=by
 obtain⟨f,fd,F,b,hm,kp⟩:=G;refine(k_ (K5 (sp:=spH (spO X.K S)) ⟨f,fd,F.hid,b,hm,kp⟩ hr hg (cQ (pv i hN hv bn aI) (cQ (pv j hN2 mT oC oQ) ha he2) he) bo he aE) hs).imp λD σ H hP=>?_;obtain⟨own,o,E,h,hr,L⟩:=hP;obtain⟨ts,c,hr,es⟩:=Ep hr;obtain⟨us,d,hr,es2⟩:=Ep hr;obtain⟨l,xs,e1,e2,e3,r0,sl⟩:=h.l1 es;obtain⟨m,zs,f1,f2,f3,s0,sl2⟩:=h.l1 es2;have lm:l≠m:=λz=>i7 (h.dis i j l (by rw[e2];simp) (by rw[f2,z];simp));refine⟨_,e1,_,f1,tQA.mk h hr λH1 vs as q _ E1 r1=>?_⟩;have h1:=h.same E1;obtain⟨hid,eqF⟩:=acH h1 (as:=[l,m]) λa ha=>by
  rcases YU.mp ha with z|z
  .exact⟨i,by rwa[z]⟩
  .exact⟨j,by rwa[YR.mp z]⟩
 have nl:¬(Ow own l/\l∉[l,m]):=λz=>z.2 wr;have nm:¬(Ow own m/\m∉[l,m]):=λz=>z.2 wr;refine⟨_,hid,[l,m],[ts,us],vs,as,_,rfl,by simp[lm],⟨rfl,λj a t ea et=>?_⟩,by rw[eqF];exact r1,q,λG bj rx EE ls a9=>?_⟩
 .match j,ea,et with
  |0,ea,et=>cases ea;cases et;exact⟨xs,(cN nl).trans (E1 _ _ e3),by rw[eqF];exact r0.same (bT E1)⟩
  |1,ea,et=>cases ea;cases et;exact⟨zs,(cN nm).trans (E1 _ _ f3),by rw[eqF];exact s0.same (bT E1)⟩
  |j+2,ea,_=>cases ea
 .match bj,rx,ls with
  |[t,u],rx,ls =>
   obtain⟨ys,ey,ry⟩:=ls.2 0 l t rfl rfl;obtain⟨ws,ew,mm⟩:=ls.2 1 m u rfl rfl;rw[eqF]at EE;have dm:∀{b:Addr}{u:HO},G b=some u->mrg (λb=>Ow own b/\b∉[l,m]) H1 G b=some u:=λ{b u}e=>(jV λz=>by rw[a9 b z]at e;cases e).trans e;generalize hM:mrg (λb=>Ow own b/\b∉[l,m]) H1 G=M at dm;have keep:∀b u,b≠l->b≠m->H1 b=some u->M b=some u:=λb u n1 n2 e=>by
    by_cases z:Ow own b
    .rw[<- hM,uK ⟨z,by simp[n1,n2]⟩];exact e
    .exact dm (cT (EE b u ((cN z).trans e))).2
   have back:∀(M':Hp),(∀b,b≠m->M' b=M b)->z0 (hd (· ∈ [l,m]) G) (hd (Ow own) M'):=λM' hM' b u e=>by
    obtain⟨n1,e⟩:=cT e;rw[cN (λz=>by rw[a9 b ⟨z,n1⟩]at e;cases e),hM' b λz=>n1 (by simp[z])];exact dm e
   obtain⟨x,ex⟩:=Kp es;obtain⟨x2,ex2⟩:=Kp es2;obtain⟨h2,S2⟩:=h1.chg ex (y:=c t) (H':=upd M m (.lst zs)) (λb u hb e=>by
    by_cases z:b=m
    .rw[z,bW];rw[z,E1 _ _ f3]at e;exact e
    .rw[bU z];exact keep b u (λy=>hb (by rw[e2,y];simp)) z e) (by
    rw[e1,e2];exact sl _ ys t ((bU lm).trans (dm ey)) (ry.same (back _ λb n=>bU n)))
   obtain⟨h3,S3⟩:=h2.chg (show(o.set i (c t))[j]?=some x2 by rwa[VQ i7]) (y:=d u) (H':=M) (λb w hb e=>by rw[bU λz=>hb (by rw[f2,z];simp)]at e;exact e) (by
    rw[f1,f2];exact sl2 _ ws u (dm ew) (mm.same (back _ λ_ _=>rfl)))
   exact L.nx own _ σ _ rx ((bT E1).trans (S2.trans S3)) h3
def J_(g:qE)(c:RT)(e:RE)(o:zC):zn->(wq->Prop)->Prop
 |[],q=>q []
 |t::ts,q=>∃(N:zn->Prop)(M:Prop),(∀y,N y->J_ g c e o ts λus=>q (y::us))/\(M->J_ g c e o ts q)/\g t o λo'=>c o' λb=>sw b (e o' λy=>match y with|.l1 us=>N us|_=>False) M
def acL(it:RI)(n:Nat)(g:qE)(c:RT)(e:RE):RE:=λo q=>it o λxs=>xs.length<=sizeLine/\J_ g c e (List.replicate n .und++o) xs λus=>q (.l2 us)
def ownL2(n L:Nat)(own:zk)(A:Φ):zk:=λi=>if i<n then[]else if i<n+L then own (i-n)else if i=n+L then A else own (i-n-1)
def Ow.ownL2{n L:Nat}{own:zk}{A:Φ}{b:Addr} : Ow (ownL2 n L own A) b↔Ow own b\/b∈A:=by
 constructor
 .rintro⟨i,z⟩;unfold L2.ownL2 at z;by_cases h1:i<n
  .rw[ZY h1]at z;cases z
  rw[ZZ h1]at z;by_cases h2:i<n+L
  .rw[ZY h2]at z;exact .inl ⟨_,z⟩
  rw[ZZ h2]at z;by_cases h3:i=n+L
  .rw[ZY h3]at z;exact .inr z
  .rw[ZZ h3]at z;exact .inl ⟨_,z⟩
 .rintro(⟨i,z⟩|z)
  .by_cases h:i<L
   .exact⟨n+i,by unfold L2.ownL2;rw[ZZ (Ts (X1 _ _)),ZY (Nat.add_lt_add_left h _),show n+i-n=i by exact TW _ _];exact z⟩
   .exact⟨n+i+1,by unfold L2.ownL2;rw[ZZ wo,ZZ wo,ZZ wo,show n+i+1-n-1=i by lia];exact z⟩
  .exact⟨n+L,by unfold L2.ownL2;rw[ZZ (Ts (X1 _ _)),ZZ (X2 _),ZY rfl];exact z⟩
def SR.blockL(h:SR K own H σ o){A:Φ}(E:z0 H H')(nA:∀a∈A,H a=none)(eA:∀a∈A,∃ys,H' a=some (.lst ys))(pre:L2.St):SR K (ownL2 pre.length o.length own A) H' (pre++σ) (List.replicate pre.length .und++o):=by
 have le:z0 (hd (Ow own) H) (hd (Ow (ownL2 pre.length o.length own A)) H'):=gU (λb z=>(Ow.ownL2.mp z).imp id (nA b)) E;have gi:∀j,∀a∈A,a∉own j:=λj a ha z=>(h.sole ⟨j,z⟩).ne (nA a ha);refine⟨by simp[h.len],λi x e=>?_,λi hi a ha=>?_,λi j a e1 e2=>?_⟩
 .by_cases h1:i<pre.length
  .rw[aF (by simpa using h1),XG,ZY h1]at e;cases e;show ownL2 _ _ _ _ i=[];unfold ownL2;rw[ZY h1]
  .rw[aD (by simpa using h1),aN]at e;have h2:i-pre.length<o.length:=(ao.mp e).1;rw[aD (Nat.not_lt.mp h1)];have:ownL2 pre.length o.length own A i=own (i-pre.length):=by unfold ownL2;rw[ZZ h1,ZY (by omega)]
   rw[this];exact(h.sl _ x e).same le E
 .rw[aA,aN]at hi;unfold ownL2 at ha;rw[ZZ wo,ZZ (Ts hi)]at ha;by_cases h3:i=pre.length+o.length
  .rw[ZY h3]at ha;exact eA a ha
  .rw[ZZ h3]at ha;obtain⟨xs,e⟩:=h.out _ wo a ha;exact⟨xs,E _ _ e⟩
 .unfold ownL2 at e1 e2;by_cases a1:i<pre.length
  .rw[ZY a1]at e1;cases e1
  by_cases b1:j<pre.length
  .rw[ZY b1]at e2;cases e2
  rw[ZZ a1]at e1;rw[ZZ b1]at e2;by_cases a2:i<pre.length+o.length<;>by_cases b2:j<pre.length+o.length
  .rw[ZY a2]at e1;rw[ZY b2]at e2;have:=h.dis _ _ a e1 e2;omega
  .rw[ZY a2]at e1;rw[ZZ b2]at e2;by_cases b3:j=pre.length+o.length
   .rw[ZY b3]at e2;exact absurd e1 (gi _ a e2)
   .rw[ZZ b3]at e2;have:=h.dis _ _ a e1 e2;omega
  .rw[ZZ a2]at e1;rw[ZY b2]at e2;by_cases a3:i=pre.length+o.length
   .rw[ZY a3]at e1;exact absurd e2 (gi _ a e1)
   .rw[ZZ a3]at e1;have:=h.dis _ _ a e1 e2;lia
  .rw[ZZ a2]at e1;rw[ZZ b2]at e2;by_cases a3:i=pre.length+o.length<;>by_cases b3:j=pre.length+o.length
   .exact Eq.trans a3 (Eq.symm b3)
   .rw[ZY a3]at e1;rw[ZZ b3]at e2;exact absurd e2 (gi _ a e1)
   .rw[ZZ a3]at e1;rw[ZY b3]at e2;exact absurd e1 (gi _ a e2)
   .rw[ZZ a3]at e1;rw[ZZ b3]at e2;have:=h.dis _ _ a e1 e2;lia
def Zj{J:It}{xs:zn}(h1:SR K own H1 σ o)(wk:Wlk K J (hd (Ow own) H1) xs)(lx:xs.length<=sizeLine)(q:J_ g rc re (List.replicate n .und++o) xs λus=>R (.l2 us))(nD:H1 D=none)(k:∀H' v x,R x->z0 H1 H'->NR K (Ow own) H1 H' v x->Q v H') :
  ∃W:Nat->Nat->Ε->Hp->Prop,(∃m,W 0 m [] (upd H1 D (.lst [])))/\∀i m ys Hc,W i m ys Hc ->
   (J.stop i Hc/\Q (.ref D) Hc)\/(J.go i Hc/\∀x H',J.yld i Hc x H'->∀pre:L2.St,pre.length=n->tMG (tQG K n g) x (pre++σ) H' λσ2 H2=>∃b6:L2.St,b6.length=n/\σ2=b6++σ/\tMT (tQT K rc) σ2 H2 λb H3 =>
    match b with
    |true=>tM (tQ K re) σ2 H3 λy H4=>ys.length<sizeLine/\H4 D=some (.lst ys)/\∃m',m'<m/\W (i+1) m' (ys++[y]) (upd H4 D (.lst (ys++[y])))
    |false=>∃m',m'<m/\W (i+1) m' ys H3):=by
 generalize hO:List.replicate n OT.und++o=ob at q;refine⟨λi m ys Hc=>∃(bs:Φ)(tss:wq),ys=bs.map V.ref/\Hc D=some (.lst ys)/\z0 H1 Hc/\(D::bs).Nodup/\(∀b∈bs,H1 b=none)/\bs.length=tss.length/\(∀(i:Nat)b ts,bs[i]?=some b->tss[i]?=some ts->∃xs,Hc b=some (.lst xs)/\bZ K (hd (λb=>Ow own b\/b∈D::bs) Hc) xs ts)/\ys.length<=i/\i<=xs.length/\m=xs.length-i/\J_ g rc re ob (xs.drop i) λus=>R (.l2 (tss++us)),⟨_,[],[],rfl,bW,z0.upd nD,by simp,λ_ z=>(nomatch z),rfl,(λi b ts e=>by cases e),aG _,aZ _,rfl,q⟩,?_⟩;rintro i m ys Hc ⟨bs,tss,rfl,eD,Ec,nd,nb,bl,rs,il,ix,rfl,hl⟩;have nA:∀a∈D::bs,H1 a=none:=λa ha=>by
  rcases YU.mp ha with z|z
  .rw[z];exact nD
  .exact nb a z
 have eA:∀a∈D::bs,∃ys,Hc a=some (.lst ys):=λa ha=>by
  rcases YU.mp ha with z|z
  .exact⟨_,z ▸ eD⟩
  .obtain⟨j,e⟩:=aV z;have lj:=(ao.mp e).1;obtain⟨zs,e2,_⟩:=rs j a _ e (aj (aR lj (WG bl)));exact⟨zs,e2⟩
 have hn:∀b,Ow own b\/b∈D::bs->Hc b≠none:=λb z=>z.elim (λz=>((h1.same Ec).sole z).ne) λe z=>by obtain⟨ys,ey⟩:=eA b e;rw[ey]at z;cases z
 have SD:z0 (hd (Ow own) H1) (hd (λb=>Ow own b\/b∈D::bs) Hc):=gU (λb z=>z.imp id (nA b)) Ec;obtain⟨w1,w2⟩:=wk (λb=>Ow own b\/b∈D::bs) Hc i hn SD;by_cases hi:i<xs.length
 .right;obtain⟨go,yl⟩:=w2 _ (aj hi);rw[Qr hi]at hl;obtain⟨N,M,hN,hM,hl⟩:=hl;refine⟨go,λx H2 y pre hp=>?_⟩;obtain⟨E2,rx⟩:=yl x H2 y;have eO:(λb=>Ow own b\/b∈D::bs)=Ow (ownL2 n o.length own (D::bs)):=funext λb=>propext Ow.ownL2.symm;have hb:SR K (ownL2 n o.length own (D::bs)) H2 (pre++σ) ob:=by
   have:=h1.blockL (Ec.trans E2) nA (λa ha=>let⟨ys,e⟩:=eA a ha;⟨ys,E2 _ _ e⟩) pre;rw[hp,hO]at this;exact this
  rw[eO]at rx rs;refine⟨_,⟨ownL2 n o.length own (D::bs),ob,_,_,hb,rx,hl,λfg σ3 o3 q3 iO h3=>?_⟩,λ_ _ z=>z⟩;obtain⟨b6,eK,rfl⟩:=UG hp iO;have e3:fg=ownL2 n o.length own (D::bs):=funext λj=>by
   rcases iO.1 j with e|⟨e1,e2⟩
   .exact e
   .rw[e2];unfold ownL2;rw[ZY e1]
  subst e3;refine⟨b6,eK,rfl,_,tQT.mk h3 q3 λH3 b q4 E3=>?_,λ_ _ z=>z⟩;have q4:sw b (re o3 λy=>match y with|.l1 us=>N us|_=>False) M:=q4;cases b with
  |false=>exact⟨xs.length-(i+1),by lia,bs,tss,rfl,E3 _ _ (E2 _ _ eD),Ec.trans (E2.trans E3),nd,nb,bl,λj b ts e1 e2=>by
    obtain⟨zs,ez,rz⟩:=rs j b ts e1 e2;rw[eO];exact⟨zs,E3 _ _ (E2 _ _ ez),rz.same (bT (E2.trans E3))⟩,by exact aL il (X1 _ _),by exact hi,rfl,hM q4⟩
  |true =>
   refine⟨_,⟨_,_,_,h3.same E3,q4,λH4 v y q5 E4 r4=>?_⟩,λ_ _ z=>z⟩
   match y,q5,r4 with
   |.l1 us,q5,r4 =>
    obtain⟨B,nB,p,zs,ev,rfl,ep,rp⟩:=r4;cases ev;have np:H3 p=none:=nB p wr;have pn:∀{a:Addr}{u:HO},H3 a=some u->a≠p:=λe z=>by rw[z,np]at e;cases e
    have E:z0 Hc H3:=E2.trans E3;have pD:D≠p:=pn (E _ _ eD);have pb:p∉bs:=λz=>by
     obtain⟨ys,ey⟩:=eA p (aJ _ z);exact pn (E _ _ ey) rfl
    have inD:∀(H:Hp)(u:HO),hd (λb=>Ow own b\/b∈D::(bs++[p])) (upd H D u)=hd (λb=>Ow own b\/b∈D::(bs++[p])) H:=λH u=>FJ (S:=λb=>Ow own b\/b∈D::(bs++[p])) (.inr wr);refine⟨by lia,E4 _ _ (E _ _ eD),xs.length-(i+1),by lia,bs++[p],tss++[us],by rw[bf];rfl,bW,λb u e=>?_,?_,λb hb=>?_,by simp[bl],λj b ts e1 e2=>?_,by rw[aA,List.length_singleton];exact Nat.succ_le_succ il,by exact hi,rfl,?_⟩
    .rw[bU λz=>by rw[z,nD]at e;cases e];exact E4 _ _ (E _ _ (Ec _ _ e))
    .rw[<- List.cons_append];exact List.nodup_append.mpr ⟨nd,by simp,λa ha c hc z=>by
      rw[YR.mp hc]at z;rcases YU.mp ha with y|y
      .exact pD (y.symm.trans z)
      .exact pb (z ▸ y)⟩
    .rcases Y1.mp hb with z|z
     .exact nb b z
     .rw[YR.mp z];exact(Ec.trans E).free np
    .rw[inD];by_cases hj:j<bs.length
     .rw[aF hj]at e1;rw[aF (aR hj (WG bl))]at e2;obtain⟨zs,ez,rz⟩:=rs j b ts e1 e2;have bD:b≠D:=λz=>(List.nodup_cons.mp nd).1 (z ▸ aC e1);refine⟨zs,by rw[bU bD];exact E4 _ _ (E _ _ ez),rz.same ?_⟩;rw[<- eO];exact gU (λc z=>by
       rcases z with z|z
       .exact .inl (.inl z)
       .rw[<- List.cons_append]at z;rcases Y1.mp z with y|y
        .exact .inl (.inr y)
        .rw[YR.mp y];exact .inr (E.free np)) (E.trans E4)
     .rw[aD (Up hj)]at e1;rw[aD wo]at e2;have j0:j-bs.length=0:=by
       have:=(ao.mp e1).1;simp at this;omega
      rw[j0]at e1;rw[show j-tss.length=0 by lia]at e2;cases e1;cases e2;refine⟨_,by rw[bU (Ne.symm pD)];exact ep,rp.same (gU (λc z=>.inl ?_) λ_ _ z=>z)⟩;rcases z with z|z
      .exact .inl (Ow.ownL2.mpr (.inl z))
      .rw[<- List.cons_append]at z;rcases Y1.mp z with y|y
       .exact .inl (Ow.ownL2.mpr (.inr y))
       .exact .inr y
    .have:=hN _ q5;simp only[Wp,List.singleton_append];exact this
 .left;have:i=xs.length:=by lia
  refine⟨w1 this,?_⟩;rw[U2 (Up hi)]at hl;have hl:R (.l2 (tss++[])):=hl;rw[List.append_nil]at hl;exact k Hc _ _ hl Ec ⟨D::bs,nA,D,bs,rfl,rfl,nd,eD,bl,rs⟩
def Yn(h:tQ K (acL ri n g rc re) σ H Q):sS (tQI K ri) n (tMG (tQG K n g)) (tMT (tQT K rc)) (tM (tQ K re)) σ H Q:=by
 obtain⟨own,o,R,h,hr,k⟩:=h;exact⟨own,o,_,h,hr,λH1 J xs q E1 wk D nD=>Zj (h.same E1) wk q.1 q.2 nD λH' v x rx E n=>k H' v x rx (E1.trans E) (n.back E1)⟩
def ac8:=@zO X tg iter a8 az ri g rc re scope pos acL Yn
def aeX{py b7:Pos}:=@yk X tg iter a8 az ri g rc re scope pos i0 y0 py b7 (λi r n g c e=>ahH i (acL r n g c e)) λ{_ i0 _ _ _ _ _ _ _ _}⟨own,o,E,h,hr,L⟩=>Yn ⟨own,o,_,h,hr,λH' v y q S n=>by
 obtain⟨am,h',S'⟩:=h.putA S n i0;exact L.nx am H' _ _ q S' h'⟩
theorem Nt{α:Type}(h:α->T)(f:α->zn){c:RT}{e:RE}{o:zC} : ∀(l:List α){q:wq->Prop},(∀a∈l,∀(N:zn->Prop)(M:Prop),N (f a)->g (h a) o λo'=>c o' λb=>sw b (e o' λy=>match y with|.l1 us=>N us|_=>False) M)->q (l.map f)->J_ g c e o (l.map h) q
 |[],_,_,k=>k
 |a::l,q,st,k=>⟨λy=>y=f a,False,λy z=>Nt h f l (λa ha=>st a (aJ _ ha)) (z ▸ k),False.elim,st a (aO ..) (λy=>y=f a) False rfl⟩
def VF{e:RE}{q:wq->Prop}(f:Nat->zn)(n:Nat)(st:∀k,k<n->∀(N:zn->Prop)(M:Prop),N (f k)->g (.int (k:Nat)) o λo'=>c o' λb=>sw b (e o' λy=>match y with|.l1 us=>N us|_=>False) M)(k:q ((List.range n).map f)):J_ g c e o (rng 0 n) q:=by
 refine Nt (λk:Nat=>.int (0+k)) f (List.range n) (λa ha N M hN=>?_) k;have:=st a (List.mem_range.mp ha) N M hN;show g (.int (0+((a:Nat):Int))) o _;rw[show(0:Int)+((a:Nat):Int)=((a:Nat):Int)by exact Int.zero_add _];exact this
theorem bZ.strs{K:Frag}{F:Hp} : ∀{xs:Ε}{ys:Θ},bZ K F xs (ys.map T.str)->xs=ys.map V.str
 |_,[],h=>by cases h;rfl
 |_,y::ys,h=>by
  cases h with
  |cons a b =>
   cases a;rw[bZ.strs b];rfl
def rJn(a:RE)(r:RA):RE:=λo q=>a o λx=>match frz x with
 |.str s=>r o λus=>∃ys:Θ,us=[.lst (ys.map T.str)]/\(ys.map (·.length)).sum+ys.length*s.length<=16777216/\q (.fz (.str (Txt.join s ys)))
 |_=>False
def aei{o:Expr}(ho:QE X o ra)(ha:QA X [e] r)(hb:attributeBase o "join" X.env (eval o X.env)=eval o X.env:=by rfl)
 (hf:qr X af e:=by rfl)
 (hl:zw ag af:=by rfl)(hs:qo X e []:=by rfl)(hp:qh X af []:=by rfl) :
  QE X (.Call (.Attribute o "join" ag) [e] [] af) (rJn ra r):=by
 refine(amO PySem.F.slot_str_join PySem.F.type_str_join aen ho ha hb hf hl hs hp).imp λσ H Q hP=>?_;obtain⟨own,o,R,h,hr,k⟩:=hP;refine tQ.mk h hr λH1 v x q E1 r1=>?_;cases ex:frz x with
 |str s =>
  rw[ex]at q r1;cases r1;refine⟨⟨s,rfl⟩,tQA.mk (h.same E1) q λH2 vs us q2 _ E2 r2=>?_⟩;obtain⟨ys,rfl,lz,q3⟩:=q2;obtain⟨y,rfl,ry⟩:=r2.one;obtain⟨p,xs,rfl,e,rx⟩:=ry.lstI;exact⟨s,p,ys,rfl,rfl,rx.strs ▸ (cT e).2,lz,k H2 _ _ q3 (E1.trans E2) (NR.fz (.str _))⟩
 |_=>rw[ex]at q;exact q.elim
def notStar:Expr->Bool
 |.Starred ..=>false
 |_=>true
def aiP{env:Env}(h:notStar e=true):starEach (e::es) env=(false,eval e env)::starEach es env:=by
 cases e<;>first|rfl|cases h
structure QEB(X:Cx)(e:Expr)(r:RE):Prop where
 out:QE X e r
structure QAB(X:Cx)(es:ze)(r:RA):Prop where
 out:QA X es r
def A_{r:RE}(h:QE X e r):QEB X e r:=⟨h⟩
def kY{i j pos} : QEB X (.Constant (.int i) j pos) (rC (.int i)):=⟨bC⟩
def amE(i:Nat)(hN:X.N[i]?=some x:=by rfl)(hv:o7 X.env.scope x=true:=by rfl)(hd:qk x:=by decide)(aI:qf x:=by decide):QEB X (.Name x pos) (aiU i):=⟨qv i hN hv hd aI⟩
def Wc{op:Operator}{g:zz}(ho:GO X (binaryOp op) g)(ha:QEB X a ra)(hb:QEB X b rb):QEB X (.BinOp a op b pos) (rOp g ra rb):=⟨bL ho ha.out hb.out⟩
def kW:QAB X [] aiY:=⟨bA⟩
def cX{a:RE}(ha:QEB X e a)(hr:QAB X es r)(hn:notStar e=true:=by rfl):QAB X (e::es) (agp a r):=⟨bx ha.out hr.out (aiP hn)⟩
def pB(h:QAB X es r)(hz:es.length<=sizeLine:=by decide):QEB X (.Tuple es k pos) (akG r):=⟨dN h.out hz⟩
def Qf(h:QAB X es r)(hz:es.length<=sizeLine:=by decide):QEB X (.List es pos) (ajj r):=⟨cF h.out hz⟩
def anq:zz
 |.int i,.int j,q=>ad1 i j/\q (.fz (.int (i*j)))
 |_,_,_=>False
def aeK:GO X (binaryOp .Mult) anq:=agR.imp λx y H Q hP=>by
 obtain⟨S,t,u,R,_,hx,hy,hg,k⟩:=hP;cases hx<;>try exact hg.elim
 cases hy<;>try exact hg.elim
 exact⟨_,_,rfl,rfl,hg.1,k H _ _ hg.2 (.refl _) (NR.fz (.int _))⟩
def aoD(n:Nat)(gs:qA):qE
 |.lst ts,o,q=>ts.length=n/\gs ts o q
 |_,_,_=>False
def aip{m:Nat}(hc:X.calm=true)(h:QGs X m es gs)(hn:(assignEach es X.env).length=n:=by rfl)(bu:zg X es:=by rfl):QG X m (.Tuple es k pos) (aoD n gs):=(afh hc h hn bu).imp λv σ H Q hP=>by
 obtain⟨own,o,t,R,h,r,hg,k⟩:=hP;cases t<;>try exact hg.elim
 obtain⟨a,xs,rfl,e,r⟩:=r.lstI;exact⟨a,xs,rfl,SqL.of (cZ _ _ e),r.len.trans hg.1,own,o,_,R,h,r,hg.2,k⟩
variable{x a y b c e f d:RS}
def sq2(J:zC->Prop)(k:∀o',J o'->y E o')(h:∀Y:zC->Prop,(∀o',J o'->Y o')->h_ a (h_ x (λ_=>Y)) E o):h_ a (h_ x y) E o:=h (y E) k
def sq3(J:zC->Prop)(k:∀o',J o'->y E o')(h:∀Y:zC->Prop,(∀o',J o'->Y o')->h_ a (h_ b (h_ x (λ_=>Y))) E o):h_ a (h_ b (h_ x y)) E o:=h (y E) k
def sq4(J:zC->Prop)(k:∀o',J o'->y E o')(h:∀Y:zC->Prop,(∀o',J o'->Y o')->h_ a (h_ b (h_ c (h_ x (λ_=>Y)))) E o):h_ a (h_ b (h_ c (h_ x y))) E o:=h (y E) k
def sq7(J:zC->Prop)(k:∀o',J o'->y E o')(h:∀Y:zC->Prop,(∀o',J o'->Y o')->h_ a (h_ b (h_ c (h_ d (h_ e (h_ f (h_ x (λ_=>Y))))))) E o):h_ a (h_ b (h_ c (h_ d (h_ e (h_ f (h_ x y)))))) E o:=h (y E) k
abbrev XC:=Addr->Θ->zn->Prop
abbrev SX:=zn->(OT->Prop)->XC->Prop
def spX(K:Frag)(S:SX):Sp:=λvs H Q E=>∃ts R Z,bZ K H vs ts/\S ts R Z/\(∀H' v x,R x->z0 H H'->NR K (λ_=>False) H H' v x->Q v H') /\
 ∀H' C d ks us cx,Z C ks cx->z0 H H'->H' d=some (.xd (ks.zip us))->bZ K H' us cx->E (.ref C) (some d) H'
abbrev Uj(P:Program)(w:World)(K:Frag)(mg:Str->Ψ)(base:Heap)(k:Nat)(x:Str)(ps:Θ)(S:SX):Prop:=OkX P w K mg base k x ps (spX K S)
variable{x:Str}{f:Addr}{S:SX}{e:Expr}{gN:Θ}
def Fun.okTX{ah:Str}{N:Θ}(F:Fun K x ah st f fd)(sc:bK N ps (bG st))
 {r}(bg:∀{ai:Value}{A:Around}{outer:xl}{s:Shared}{H:Hp}{E:XK},dH k (A.deeper (envOfC ah (bG st) s.heap.objs.size f ai))->N.Nodup ->QSs (Dg (CXO P w) P w K mg base N ah (bG st) f ai A outer s H E) (fJ st) r)(b2:∀ts R Z,S ts R Z->r { nx:=λ_=>R (.fz .non),rt:=R,xc:=Z } (start' N.length ts))(len:∀ts R Z,S ts R Z->ts.length=ps.length:=by intro _ _ _ h;repeat (first|exact(ZH List.length h.1).trans rfl|obtain⟨_,h⟩:=h)):d9 P w K mg base (CXO P w) (k+1) f fd ps (spX K S):=by
 refine F.okX sc (λvs H Q E h=>?_) λai A outer s H vs Q E hr h=>?_
 .obtain⟨ts,R,Z,r,hS,_⟩:=h;exact r.len.trans (len ts R Z hS)
 .obtain⟨ts,R,Z,r,hS,q,qx⟩:=h;have h1:=@bg ai A outer s H E hr sc.nd;have h2:=b2;have e0:hd (Ow λ_=>[]) H=H:=by rw[show Ow (λ_=>[])=λ_=>False from funext λb=>propext ⟨λhP=>by obtain⟨_,z⟩:=hP;exact(nomatch z),False.elim⟩,Hl]
  have fin:∀(S:Addr->Prop)H' v x B,R x->z0 H (hd S H')->Slo K (hd S H') H' (some v) B x->(∀a∈B,S a)->Q v H':=λS' H' v x B rx E s hB =>
   q H' v x rx (E.trans cZ) ⟨B,λa ha=>E.free (o_ (hB a ha)),s.same (gU (λb z=>.inl (z.elim False.elim (hB b))) λ_ _ z=>z) λ_ _ z=>z⟩
  refine⟨_,h1,λ_=>[],_,_,SR.start r N,h2 ts R Z hS,⟨λown H' σ o rx E h=>?_,λS' H' v x B rx E s hB=>fin S' H' v x B rx (e0 ▸ E) s hB,λ_ _ _ _ z=>z.elim,λ_ _ _ _ z=>z.elim,λH' C d ks us cx z E e r'=>?_⟩⟩
  .exact fin (Ow own) H' .non _ [] rx (e0 ▸ E) ⟨rfl,_,rfl,.non⟩ λ_ z=>(nomatch z)
  .have e1:=qx H' C d ks us cx z (e0 ▸ E) e r';exact⟨λaa σ H2 s2 a s' B I F2=>aeM aa σ H2 s2 a _ H' s' B _ I F2 e1,λaa σ H2 s2 a c ec I ha ge eo=>Zm aa σ H2 s2 a c _ I ha ge (by rw[eo,<- ec];exact e1)⟩
def Xk:aay X λC d _ H'=>zx X C d H':=λaa σ H s a C H' s' B d I F z=>z.1 aa σ H s a s' B I F
def ac7:Xh X λC d _ H'=>zx X C d H':=λaa σ H s a C d I e g z=>z.2 aa σ H s a C rfl I e g rfl
def ai3(S:SX)(r:RA):RS:=λE o=>r o λts=>S ts (λ_=>E.nx o) E.xc
def T7(G:Uj X.prog X.w X.K X.mg X.base k x ps S)(ha:QA X (e::es) r)(hr:dH k X.A:=by exact dH.mono (by assumption) wp)(hg:Gl X x:=by rfl)(bo:qk x:=by decide)
 (he:qo X e es:=by rfl)(aE:qh X pos es:=by rfl)
 (hs:swapsWith (.Call (.Name x p) (e::es) [] pos) none ay.line X.env=pure false:=by rfl):QS X (.Expr (.Call (.Name x p) (e::es) [] pos) ay) (ai3 S r) :=
 (k_ (Ks G hr hg Xk ha bo he aE) hs).imp λD σ H ⟨own,o,E,h,hr,L⟩=>tQA.mk h hr λH1 vs ts q _ E1 r1=>by
  refine⟨ts,_,_,r1.same cZ,q,λH' v x q S n=>?_,λH' C d ks us cx z S e r'=>L.xc H' C d ks us cx z (cZ.trans (E1.trans S)) e r'⟩;exact L.nx own H' σ o q (bT (E1.trans S)) (h.same (E1.trans S))
def acy(C:Addr)(ci:Str):Sp:=λvs H Q _=>∃a v,vs=[.ref a,v]/\H a=some (XN a C none)/\∀d,H d=none->d≠a->Q .non (upd (upd H a (XN a C (some d))) d (.xd [(ci,v)]))
def ah6{a d:Addr}{o o' x:HO}(n:H a=none)(e:d≠a):out (upd (upd (upd H a o) a o') d x) a=upd H d x:=by
 funext b
 by_cases z:b=a
 .subst z;rw[Tw,bU (Ne.symm e),n]
 .rw[yp z];by_cases y:b=d
  .subst y;rw[bW,bW]
  .rw[bU y,bU z,bU z,bU y]
def aiH(C:Addr)(ci:Str)(re:RE):RS:=λE o=>re o λx=>E.xc C [ci] [frz x]
def Jr{ci:Str}{np:Pos}{C HE fI:Addr}(hc:X.calm=true)(hm:X.mg x=some (.ref C))(q:Lq X.K C HE fI)(G:zd X CX0 k fI ps (acy C ci))(ha:QE X e re)(hr:dH (k+1) X.A:=by exact dH.mono (by assumption) wp)(hg:Gl X x:=by rfl)(bo:qk x:=by decide)
 (he:qo X e []:=by rfl)(aE:qh X af []:=by rfl) :
  QS X (.Raise (some (.Call (.Name x np) [e] [] af)) none pos) (aiH C ci re) :=
 (aau hc hg hm q G hr ac7 (bx ha bA he) bo he aE).imp λD σ H ⟨own,o,E,h,hr,L⟩=>tQA.mk h hr λH1 vs ts q ln E1 r1=>by
  obtain⟨t,rfl⟩ : ∃t,ts=[t]:=by
   match ts,ln with
   |[t],_=>exact⟨t,rfl⟩
  obtain⟨v,rfl⟩ : ∃v,vs=[v]:=by
   match vs,r1.len with
   |[v],_=>exact⟨v,rfl⟩
  refine⟨(show 1<=sizeLine by decide),λa ha=>⟨a,v,rfl,bW,λd hd da=>⟨rfl,some d,(bU (Ne.symm da)).trans bW,?_⟩⟩⟩;rw[ah6 ha da];have bn:H1 d=none:=by rw[bU da]at hd;exact hd
  exact L.xc _ C d [ci] [v] _ q (cZ.trans (E1.trans (z0.upd bn))) bW (r1.same (cZ.trans (z0.upd bn)))
def apg:T->(OT->Prop)->Prop
 |.lst ts,q=>q (.fz (.tup ts))
 |_,_=>False
def acn:GC X (.type "tuple") (g1 apg):=aaG.imp λxs H Q hP=>by
 obtain⟨S,ts,R,hs,rs,hg,k⟩:=hP
 match ts,hg with
 |[t],hg =>
  obtain⟨x,rfl,rx⟩:=rs.one;cases t<;>try exact hg.elim
  obtain⟨p,xs,rfl,e,r⟩:=rx.lstI;exact⟨p,xs,rfl,(cT e).2,λl H' E n e'=>k _ _ _ hg E (NR.fz (.tup (.of (by rwa[cN λz=>hs l z n])) (r.same (bT E))))⟩
def aoA:OT->OT->(OT->Prop)->Prop
 |.l1 ts,.l1 us,q=>q (.l2 [ts,us])
 |_,_,_=>False
def an6(a b:RE):RE:=λo q=>a o λx=>b o λy=>aoA x y q
def ah3{a b:Expr}(ha:QE X a ra)(hb:QE X b rb)(hs:starEach [a,b] X.env=(false,eval a X.env)::starEach [b] X.env:=by rfl)(eJ:qo X b []:=by rfl):QE X (.List [a,b] pos) (an6 ra rb):=(XH (cQ ha (cQ hb jB eJ) hs)).imp λσ H Q hP=>by
 obtain⟨own,o,R,h,hr,k⟩:=hP;refine⟨own,o,_,h,hr,λH1 v x q1 E1 n1=>?_⟩;cases x with
 |l1 ts =>
  obtain⟨B,nb,c,xs,ev,rfl,e1,r1⟩:=n1;cases ev;have nc:H c=none:=nb c wr;have h1:=h.block E1 nc e1 [];refine⟨_,o,_,h1,q1,λH2 w y q2 E2 n2=>?_⟩;cases y with
  |l1 us =>
   obtain⟨B2,nb2,d,ys,ew,rfl,e2,r2⟩:=n2;cases ew;have nd:H1 d=none:=nb2 d wr;refine⟨(show 2<=sizeLine by decide),λp hp=>?_⟩;have np:=E2.free hp;have gE:=E2 _ _ e1;have pc:p≠c:=λz=>by rw[z,gE]at hp;cases hp
   have pd:p≠d:=λz=>by rw[z,e2]at hp;cases hp
   have cd:c≠d:=λz=>by rw[<- z,e1]at nd;cases nd
   have U:z0 H2 (upd H2 p (.lst [V.ref c,V.ref d])):=z0.upd hp;refine k _ _ _ q2 (E1.trans (E2.trans U)) ⟨[p,c,d],λb hb=>?_,p,[c,d],rfl,rfl,?_,bW,rfl,λi b cx eb et=>?_⟩
   .simp only[YU,VY,or_false]at hb;rcases hb with rfl|rfl|rfl
    .exact E1.free np
    .exact nc
    .exact E1.free nd
   .simp[pc,pd,cd]
   .match i,eb,et with
    |0,rfl,rfl =>
     refine⟨xs,U _ _ gE,r1.same (gU (λb z=>?_) (E2.trans U))⟩;rcases z with z|z
     .exact .inl (.inl z)
     .simp only[YU,VY,or_false]at z;rcases z with rfl|rfl|rfl
      .exact .inr np
      .exact .inl (.inr wr)
      .exact .inr nd
    |1,rfl,rfl =>
     refine⟨ys,U _ _ e2,r2.same (gU (λb z=>?_) U)⟩;rcases z with z|z
     .exact .inl (.inl (Ow.ownS.mpr (.inl z)))
     .simp only[YU,VY,or_false]at z;rcases z with rfl|rfl|rfl
      .exact .inr hp
      .exact .inl (.inl (Ow.ownS.mpr (.inr rfl)))
      .exact .inl (.inr wr)
  |_=>exact q2.elim
 |_=>exact⟨own,o,_,h.same E1,q1,λ_ _ _ q _ _=>q.elim⟩
def ag2(C:Addr)(KS:Θ)(S:SX)(a:RE)(r:RA):RS:=λE o=>a o λx=>match frz x with|.ins C' ks ts=>(C'=C/\ks=KS)/\r o λas=>S (.ins C' ks ts::as) (λ_=>E.nx o) E.xc|_=>False
def abp{f:Str}{o:Expr}{fa C:Addr}{KS:Θ}(he:QE X o ro)(c:Cls X.K C)(hm:Meth X.K C f fa)(G:zd X (CXO X.prog X.w) k fa ps (spX X.K S))(ha:QA X (e::es) r)(hr:dH k X.A:=by exact dH.mono (by assumption) wp)(hk:f∉KS:=by decide +kernel)
 (bu:qo X e es:=by rfl)(aE:qh X pos es:=by rfl)
 (ht:eval (.Call (.Attribute o f ag) (e::es) [] pos) X.env=(do
   let ov <- eval o X.env
   standAt ag.atName
   let(f,first) <- holding [ov] (getMethod ov f pl)
   callWith pos f first (backTo pos (starEach (e::es) X.env)) (backToKw pos (keywordEach [] X.env))):=by rfl)
 (hs:swapsWith (.Call (.Attribute o f ag) (e::es) [] pos) none ay.line X.env=pure false:=by rfl) :
  QS X (.Expr (.Call (.Attribute o f ag) (e::es) [] pos) ay) (ag2 C KS S ro r):=(k_ (aap (pl:=pl) he c hm G hr Xk ha bu aE ht) hs).imp λD σ H ⟨own,o,E,h,hr,L⟩=>tQ.mk h hr λH1 v x q E1 r1=>by
 revert r1 q
 generalize frz x=t;intro q r1;cases t<;>try exact q.elim
 obtain⟨a,dx,xs,rfl,e,d,l,r⟩:=r1.insI;obtain⟨⟨rfl,rfl⟩,q⟩:=q;refine⟨a,dx,_,rfl,(cT e).2,Hu hk,tQA.mk (h.same E1) q λH2 vs as q _ E2 r2=>?_⟩;refine⟨_,_,_,.cons ((r1.same (bT E2)).same cZ) (r2.same cZ),q,λH' v x q S n=>?_,λH' C d ks us cx z S e r'=>L.xc H' C d ks us cx z (cZ.trans (E1.trans (E2.trans S))) e r'⟩;exact L.nx own H' σ _ q (bT (E1.trans (E2.trans S))) (h.same (E1.trans (E2.trans S)))
def d9.or{X:CXT}{S1 S2:SX}(h1:d9 P w K mg base X k f fd ps (spX K S1))(h2:d9 P w K mg base X k f fd ps (spX K S2)):d9 P w K mg base X k f fd ps (spX K λts R Z=>S1 ts R Z\/S2 ts R Z):=by
 refine⟨λvs H Q E h=>?_,λA outer s H args us vs Q E hr e0 hb r h=>?_⟩
 .obtain⟨ts,R,Z,r,h|h,k⟩:=h
  .exact h1.len vs H Q E ⟨ts,R,Z,r,h,k⟩
  .exact h2.len vs H Q E ⟨ts,R,Z,r,h,k⟩
 .obtain⟨ts,R,Z,r',h|h,k⟩:=h
  .exact h1.run A outer s H args us vs Q E hr e0 hb r ⟨ts,R,Z,r',h,k⟩
  .exact h2.run A outer s H args us vs Q E hr e0 hb r ⟨ts,R,Z,r',h,k⟩
def SR.add2(h:SR K own H σ o){tss:wq}(e:slot o i=.l2 tss){l c:Addr}(eσ:σ[i]?=some (some (.ref l)))(eo:own i=l::bs)(nd:(l::bs).Nodup)(ln:bs.length=tss.length)
 (r:∀(i:Nat)b ts,bs[i]?=some b->tss[i]?=some ts->∃xs,H b=some (.lst xs)/\bZ K (hd (Ow own) H) xs ts)(E:z0 H H1)(nc:H c=none)(ec:H1 c=some (.lst xs))(rc:bZ K (hd (λb=>Ow own b\/b∈[c]) H1) xs ts) :
  SR K (own1 own i (l::(bs++[c]))) (upd H1 l (.lst ((bs++[c]).map V.ref))) σ (o.set i (.l2 (tss++[ts])))/\z0 (hd (Ow own) H) (hd (Ow (own1 own i (l::(bs++[c])))) (upd H1 l (.lst ((bs++[c]).map V.ref)))):=by
 have hi:i<o.length:=(ao.mp (gY e (by intro z;cases z))).1;have lo:l∈own i:=by rw[eo];simp
 have ii:∀j,c∉own j:=λj z=>(h.sole ⟨j,z⟩).ne nc;have Ow':∀b,Ow (own1 own i (l::(bs++[c]))) b->Ow own b\/b=c:=λb z=>by
  rcases z.of1 with z|z
  .exact .inl z
  .rcases YU.mp z with z|z
   .exact .inl ⟨i,by rwa[z]⟩
   .rcases Y1.mp z with z|z
    .exact .inl ⟨i,by rw[eo];exact aJ _ z⟩
    .exact .inr (YR.mp z)
 have le:∀{H0:Hp},z0 H0 H1->(∀b,b=c->H0 b=none)->z0 (hd (Ow own) H0) (hd (Ow (own1 own i (l::(bs++[c])))) (upd H1 l (.lst ((bs++[c]).map V.ref)))):=λ{H0}E0 n0 b u q=>by
  obtain⟨nb,q⟩:=cT q;have n1:¬Ow (own1 own i (l::(bs++[c]))) b:=λz=>(Ow' b z).elim nb λy=>by rw[n0 b y]at q;cases q
  rw[cN n1,bU λz=>nb ⟨i,by rwa[z]⟩];exact E0 _ _ q
 have mI:=le E λb z=>z ▸ nc;have lc:l≠c:=λz=>ii i (z ▸ lo);refine⟨⟨by rw[WH,h.len],λj y ey=>?_,λj hj a ha=>?_,λj k a e1 e2=>?_⟩,mI⟩
 .by_cases z:j=i
  .subst z;rw[UU hi]at ey;cases ey;rw[jf,eσ];refine⟨l,bs++[c],rfl,rfl,?_,bW,by simp[ln],λk b us eb et=>?_⟩
   .rw[List.nodup_cons]at nd ⊢;refine⟨λz=>?_,?_⟩
    .rcases Y1.mp z with z|z
     .exact nd.1 z
     .exact lc (YR.mp z)
    .refine List.nodup_append.mpr ⟨nd.2,by simp,λa ha b hb z=>?_⟩;rw[YR.mp hb]at z;exact ii j (by rw[eo,<- z];exact aJ _ ha)
   .by_cases kb:k<bs.length
    .rw[aF kb]at eb;rw[aF (ln ▸ kb)]at et;obtain⟨ys,q,ry⟩:=r k b us eb et;have bl:b≠l:=λz=>(List.nodup_cons.mp nd).1 (z ▸ aC eb);exact⟨ys,(bU bl).trans (E _ _ q),ry.same mI⟩
    .have kk:k=bs.length:=by
      have:=(ao.mp eb).1;rw[aA,List.length_singleton]at this;lia
     subst kk;rw[aD (aG _),TR]at eb;rw[ln,aD (aG _),TR]at et;cases eb;cases et;refine⟨xs,(bU (Ne.symm lc)).trans ec,rc.same λb u q=>?_⟩;obtain⟨nb,q⟩:=cT q;rw[cN λz=>nb ((Ow' b z).imp id λy=>by simp[y]),bU λz=>nb (.inl ⟨j,by rwa[z]⟩)];exact q
  .rw[VQ (Ne.symm z)]at ey;rw[eN z];exact((h.sl j y ey).same mI E).off λb hb u q=>(bU λy=>z (h.dis j i b hb (by rwa[y]))).trans q
 .rw[WH]at hj;rw[eN wo]at ha;obtain⟨ys,q⟩:=h.out j hj a ha;exact⟨ys,(bU λy=>by have:=h.dis j i a ha (by rwa[y]);lia).trans (E _ _ q)⟩
 .have go:∀(j k:Nat)(a:Addr),k≠i->a∈own1 own i (l::(bs++[c])) i->a∉own k:=λj k a hk e1 e2=>by
   rw[jf]at e1;rcases YU.mp e1 with z|z
   .exact hk (h.dis k i a e2 (by rwa[z]))
   .rcases Y1.mp z with z|z
    .exact hk (h.dis k i a e2 (by rw[eo];exact aJ _ z))
    .exact ii k (by rwa[<- YR.mp z])
  by_cases z:j=i<;>by_cases y:k=i
  .rw[z,y]
  .rw[eN y]at e2;rw[z]at e1;exact(go j k a y e1 e2).elim
  .rw[eN z]at e1;rw[y]at e2;exact(go k j a z e2 e1).elim
  .rw[eN z]at e1;rw[eN y]at e2;exact h.dis j k a e1 e2
def add2:wq->OT->(OT->Prop)->Prop
 |tss,.l1 ts,q=>tss.length<sizeLine/\q (.l2 (tss++[ts]))
 |_,_,_=>False
def af7(i:Nat)(a:RE):RS:=λE o=>match slot o i with|.l2 tss=>a o λx=>add2 tss x λy=>E.nx (o.set i y)|_=>False
def afa(i:Nat)(he:QE X e re)(hN:X.N[i]?=some x:=by rfl)(hv:o7 X.env.scope x=true:=by rfl)(bn:qk x:=by decide)(aI:qf x:=by decide)
 (hb:attributeBase (.Name x p) "append" X.env (eval (.Name x p) X.env)=eval (.Name x p) X.env:=by rfl)
 (hf:qr X af e:=by rfl)
 (hl:zw ag af:=by rfl)(bu:qo X e []:=by rfl)(hp:qh X af []:=by rfl)
 (hs:swapsWith (.Call (.Attribute (.Name x p) "append" ag) [e] [] af) none pos.line X.env=pure false:=by rfl) :
  QS X (.Expr (.Call (.Attribute (.Name x p) "append" ag) [e] [] af) pos) (af7 i re):=(k_ (Xz (pv i hN hv bn aI) (cQ he jB bu) hb hf hl bu hp) hs).imp λD σ H hP=>by
 obtain⟨own,o,E,h,hr,L⟩:=hP;unfold af7 at hr;cases es:slot o i with
 |l2 tss =>
  rw[es]at hr;obtain⟨l,bs,e1,e3,nd,e4,ln,r⟩:=h.l2 es;refine⟨_,e1,l,_,rfl,e4,own,o,_,h,hr,λH1 v x q E1 n=>?_⟩;cases x with
  |l1 ts =>
   obtain⟨B,nb,c,xs,ev,rfl,e2,r2⟩:=n;cases ev;obtain⟨h',S⟩:=h.add2 es e1 e3 nd ln r E1 (nb c wr) e2 r2;refine⟨.ref c,bs.map V.ref,rfl,E1 _ _ e4,by rw[ak,ln];exact q.1,?_⟩;rw[show bs.map V.ref++[V.ref c]=(bs++[c]).map V.ref by rw[bf];rfl];exact L.nx _ _ σ _ q.2 S h'
  |_=>exact q.elim
 |_=>rw[es]at hr;exact hr.elim
def U3{ds:xa}(h:SeqAt.shaped (.list ds)=true):PyData.canLayAll0 ds=true/\PyData.depthAll ds<=63:=by
 have a:=SeqAt.canLay_of_shaped h;have b:=SeqAt.depth_of_shaped h;unfold PyData.canLay0 at a;unfold PyData.depth at b;exact⟨a,by exact Nat.le_of_succ_le_succ b⟩
def agu{x:Option α}{b:α}{q:α->Prop}(e:x=some b)(h:q b):oT x q:=by rwa[e]
def gIn(neg:Bool)(t u:T)(q:OT->Prop):Prop:=∃d ds,t=ofD d/\u=ofD (.list ds)/\SeqAt.shaped d=true/\SeqAt.shaped (.list ds)=true/\q (.fz (.bl (xr neg (ds.any λy=>PyData.eqv y d))))
def ahX{neg:Bool}(h0:∀{A:Around}{E:Β}{s:Shared}{c x:Value}{xs:xa}{d:PyData}{as bs:Φ}{Q:Β},Reads s.heap c (.list xs) as->Reads s.heap x d bs->PyData.canLayAll0 xs=true->d.canLay0=true->A.units+1+min (PyData.depthAll xs) d.depth<cLine->Q (.bool (xr neg (xs.any λy=>PyData.eqv y d))) s->wpAny (model X.prog X.w) A (compareOp op x c) Q E s)(hu:X.A.units+64<cLine):GO X (compareOp op) (gIn neg):=λaa s σ H x y v u Q I rx ry h=>by
 obtain⟨S,t,w,R,_,hx,hy,⟨d,ds,rfl,rfl,sd,sl,q⟩,k⟩:=h;obtain⟨l1,l2⟩:=U3 sl;obtain⟨as,ra⟩:=I.readsK ((hx.shows d rfl (SeqAt.canLay_of_shaped sd)).same cZ) rx;obtain⟨bs,rb⟩:=I.readsK ((hy.shows (.list ds) rfl (SeqAt.canLay_of_shaped sl)).same cZ) ry;have:=Nat.min_le_left (PyData.depthAll ds) d.depth;exact h0 rb ra l1 (SeqAt.canLay_of_shaped sd) wo ⟨.bl _,H,I,rfl,k H _ _ q (.refl _) (NR.fz (.bl _))⟩
def agc(hu:X.A.units+64<cLine):GO X (compareOp .In) (gIn false):=ahX (λrc rx a b c q=>SeqAt.in_list_reads rc rx a b c q) hu
def aa6(mg:Str->Ψ)(i:Nat)(nm:Bool->Str)(S:Bool->ST)(r:RA):RE:=λo q=>match slot o i with|.fz (.val (.ref f))=>∃b,mg (nm b)=some (.ref f)/\r o λts=>S b ts q|_=>False
def adq(i:Nat){nm:Bool->Str}{S:Bool->ST}(G:∀b,∃ps,OkT X.prog X.w X.K X.mg X.base k (nm b) ps (S b))(hr:dH k X.A)(ha:QA X (e::es) r)(hN:X.N[i]?=some x:=by rfl)(hv:o7 X.env.scope x=true:=by rfl)(hd:qk x:=by decide)(aI:qf x:=by decide)
 (he:qo X e es:=by rfl)(aE:qh X pos es:=by rfl)(f8:X.mg=mg:=by rfl):QE X (.Call (.Name x p) (e::es) [] pos) (aa6 mg i nm S r):=by
 subst f8;intro aa s σ H Q I ⟨own,o,R,h,hq,kk⟩;unfold aa6 at hq;cases gz:slot o i with
 |fz t =>
  cases t with
  |val v =>
   cases v with
   |ref f =>
    rw[gz]at hq;obtain⟨b,hm,hq⟩:=hq;obtain⟨ps,f',fd,F,bd,hG,kp⟩:=G b;rw[hm]at hG;cases hG;obtain⟨u,eu,ru⟩:=h.get (gY gz (by intro z;cases z));cases ru;refine aaO (sp:=spH (spT X.K (S b))) ⟨fd,F.hid,bd,kp⟩ hr (pv i hN hv hd aI) ha he aE aa s σ H Q I ⟨_,eu,rfl,tQA.mk h hq λH1 vs ts q _ E1 r1=>?_⟩;have h1:=h.same E1;refine⟨Ow own,h1.hid,ts,R,r1,q,λG v x rx E n a9=>?_⟩;have EH:z0 H1 (mrg (Ow own) H1 G):=λb u e=>by
     by_cases z:Ow own b
     .rw[uK z];exact e
     .rw[jV z];exact E b u ((cN z).trans e)
    have EG:z0 G (mrg (Ow own) H1 G):=λb u e=>by rw[jV λz=>by rw[a9 b z]at e;cases e];exact e
    refine kk _ v x rx (E1.trans EH) (NR.back (H:=H1) ?_ E1);obtain⟨B,nb,s⟩:=n;have out:∀a∈B,¬Ow own a:=λa ha z=>(s.sole ha).ne (a9 a z);refine⟨B,λa ha=>by have:=nb a ha;rwa[cN (out a ha)]at this,s.same (gU (λb z=>?_) EG) EG⟩;rcases z with z|z
    .exact .inr (a9 b z)
    .exact .inl (.inr z)
   |_=>rw[gz]at hq;exact hq.elim
  |_=>rw[gz]at hq;exact hq.elim
 |_=>rw[gz]at hq;exact hq.elim
def ah8(hg:Gl X x)(hm:X.mg x=some (.ref f))(hd:qk x:=by decide):QE X (.Name x pos) (rC (.val (.ref f))):=Ue (v:=.ref f) (hg:=hg) (hm:=⟨_,hm,rfl⟩) (r:=(λ_=>.val _)) (hd:=hd)
def akS:ST:=λts q=>match ts with|[.int a,.int b]=>q (.fz (.int (if b<a then b else a)))|_=>False
def aeB(hc:X.calm=true):GC X (.builtin "min") akS:=(aaI hc).imp λxs H Q hP=>by
 obtain⟨S,ts,R,_,rs,hg,k⟩:=hP
 match ts,hg with
 |[.int a,.int b],hg =>
  cases rs with
  |cons r1 rs=>cases rs with
   |cons r2 rs =>
    cases rs;cases r1;cases r2;exact⟨a,b,rfl,k H _ _ hg (.refl _) (NR.fz (.int _))⟩
def YX(sc:Scope)(N N' xs:Θ)(hi:QI (X.compG N0 sO gN C0 s0 H0 db c8) tg iter ri)(hg:∀{C s₀ H₀ ex pn},QG ((X.compG N0 sO gN C0 s0 H0 db c8).compG N' scope xs C s₀ H₀ ex pn) xs.length tg g)(ht:∀{C s₀ H₀ ex pn},QTs ((X.compG N0 sO gN C0 s0 H0 db c8).compG N' scope xs C s₀ H₀ ex pn) az rc)(he:∀{C s₀ H₀ ex pn},QE ((X.compG N0 sO gN C0 s0 H0 db c8).compG N' scope xs C s₀ H₀ ex pn) a8 re)
 (b9:X.env.scope=sc:=by rfl)(cc:gN++N0=N:=by rfl)(hc:X.calm=true:=by rfl)(hk:scope.kind=.function:=by rfl)(h:CK (rlb sc sO) scope N N' xs:=by decide +kernel)(hs:∀z,foldedSetIterable iter (X.compG N0 sO gN C0 s0 H0 db c8).env z=pure z:=by intro _;rfl):QE (X.compG N0 sO gN C0 s0 H0 db c8) (.ListComp a8 [⟨tg,iter,az,0⟩] scope pos) (W4 ri xs.length g rc re):=by
 subst b9;exact dG (X:=X.compG N0 sO gN C0 s0 H0 db c8) (rlb X.env.scope sO) N N' xs hi hg ht he rfl cc hc hk h hs
def amI(S:SX)(r:RA):RS:=λE o=>r o λts=>S ts (λ_=>False) E.xc
def afC(i:Nat){gX:Pos}{y:Str}(hN:X.N.Nodup)(hx:Loc X.env.scope y)(G:Uj X.prog X.w X.K X.mg X.base k x ps S)(hr:dH k X.A)(hg:Gl X x)(ha:QA X (e::es) r)(hi:X.N[i]?=some y:=by rfl)(bo:qk x:=by decide)
 (he:qo X e es:=by rfl)(aE:qh X pos es:=by rfl)
 (hs:swapsWith (.Call (.Name x p) (e::es) [] pos) (some (.Name y ay)) gX.line X.env=pure false:=by rfl)(hf:qi X y:=by first|exact .inl rfl|exact .inr rfl|assumption):QS X (.Assign [.Name y ay] (.Call (.Name x p) (e::es) [] pos) gX) (amI S r) :=
 (Em hN hi hx (Ks G hr hg Xk ha bo he aE) hs hf).imp λD σ H ⟨own,o,E,h,hr,L⟩=>tQA.mk h hr λH1 vs ts q _ E1 r1 =>
  ⟨ts,_,_,r1.same cZ,q,λH' v x q S n=>q.elim,λH' C d ks us cx z S e r'=>L.xc H' C d ks us cx z (cZ.trans (E1.trans S)) e r'⟩
def akt(i:Nat):RE:=λo q=>match slot o i with|.l2 (ts::_)=>q (.l1 ts)|_=>False
def ahv(i:Nat){p3:Pos}{b:Expr}(hg:Gl X "list")(hm:X.mg "list"=none)(hb:PE X b (tC (.int 0)))(hN:X.N[i]?=some x:=by rfl)(hv:o7 X.env.scope x=true:=by rfl)(bn:qk x:=by decide)(aI:qf x:=by decide)(hs:pH b:=by exact λ_ _=>rfl)
 (he:starEach [.Subscript (.Name x p1) b p3] X.env=(false,eval (.Subscript (.Name x p1) b p3) X.env)::starEach [] X.env:=by rfl)(aE:qh X pos []:=by rfl):QE X (.Call (.Name "list" p) [.Subscript (.Name x p1) b p3] [] pos) (akt i) :=
 (Nj Kz hg hm boot_list (cQ (Jk vo (pv i hN hv bn aI) hb hs) jB he) wp wp he aE).imp λσ H Q hP=>by
  obtain⟨own,o,R,h,hr,k⟩:=hP;unfold akt at hr;cases es:slot o i with
  |l2 tss =>
   rw[es]at hr;cases tss with
   |nil=>exact hr.elim
   |cons ts tss =>
    obtain⟨l,bs,e1,e3,nd,e4,ln,r⟩:=h.l2 es;cases bs with
    |nil=>cases ln
    |cons b bs =>
     obtain⟨xs,hb,rx⟩:=r 0 b ts rfl rfl;exact⟨_,e1,l,_,0,.ref b,rfl,rfl,.of e4,al4,b,xs,rfl,hb,λa ha=>k _ _ _ hr (z0.upd ha) (xV rx (z0.upd ha) ha bW)⟩
  |_=>rw[es]at hr;exact hr.elim
end L2
namespace Ac
def lw(t b:Int):Int×Int:=(t/(Int.gcd t b:Nat),b/(Int.gcd t b:Nat))
def akm{t b:Int}(hb:0<b):(0:Int)<(Int.gcd t b:Nat):=by
 have:=Zzz t (show b≠0 by exact WU hb);lia
section
variable{κ:Type}[DecidableEq κ]
def look(acc:List (κ×Int))(r:κ):Int:=((acc.find? λg=>decide (g.1=r)).map (·.2)).getD 0
def put(acc:List (κ×Int))(r:κ)(y:Int):List (κ×Int):=if(acc.any λg=>decide (g.1=r))=true then acc.map (λg=>if g.1=r then(g.1,y)else g)else acc++[(r,y)]
def apF(gs:List (κ×Int)):List (κ×Int):=gs.foldl (λa g=>put a g.1 (look a g.1+g.2)) []
def ways(gs:List (κ×Int))(S:Int):List (κ×Int×Int):=((apF gs).filter λg=>decide (0<g.2)).map λg=>(g.1,lw g.2 S)
end
end Ac
namespace Rw
open Ac
def rep(r:List Int×Int):List Ξ:=r.1.map λt=>lw t r.2
def gcL(ts:xy)(b:Int):Int:=ts.foldl (λc t=>((Int.gcd t c:Nat):Int)) b
theorem iH:∀{ts:xy}{b:Int},0<b->0<gcL ts b
 |[],_,h=>h
 |t::ts,b,h=>iH (ts:=ts) (akm (t:=t) h)
theorem iK:∀{ts:xy}{b:Int},gcL ts b ∣ b/\∀t∈ts,gcL ts b ∣ t
 |[],b=>⟨Int.dvd_refl b,by simp⟩
 |t::ts,b=>by
  obtain⟨h1,h2⟩:=iK (ts:=ts) (b:=((Int.gcd t b:Nat):Int));refine⟨Int.dvd_trans h1 (JS t b),λx hx=>?_⟩;rcases YU.mp hx with rfl|hx
  .exact Int.dvd_trans h1 (Int.gcd_dvd_left x b)
  .exact h2 x hx
def rN{ts:xy}{b:Int}(h:0<b):gcL ts b<=b:=Int.le_of_dvd h iK.1
def jL(r:List Int×Int):List Int×Int:=(r.1.map λt=>t/gcL r.1 r.2,r.2/gcL r.1 r.2)
def lg(r:List Int×Int):(jL r).1.length=r.1.length:=by unfold jL;rw[ak]
def jc(r:List Int×Int)(c:Ξ):List Int×Int:=(r.1.map λt=>t*c.1,r.2*c.2)
def oR(r o:List Int×Int)(c:Ξ):List Int×Int :=
 (List.zipWith (λa b=>a*(o.2*c.2/((Int.gcd r.2 (o.2*c.2):Nat):Int))+b*(r.2/((Int.gcd r.2 (o.2*c.2):Nat):Int)*c.1)) r.1 o.1,r.2*(o.2*c.2/((Int.gcd r.2 (o.2*c.2):Nat):Int)))
structure Big(N:Nat)(r:List Int×Int):Prop where
 pos:0<r.2
 bot:r.2.natAbs<=N
 top:∀t∈r.1,t.natAbs<=N
variable{N:Nat}{R':Nat->Nat->Rat}
def Big.le{M:Nat}{r:List Int×Int}(h:Big N r)(hn:N<=M):Big M r:=⟨h.pos,aL h.bot hn,λt ht=>aL (h.top t ht) hn⟩
def Tf{d t g x:Int}(h1:d ∣ t*x)(h2:d ∣ g*x):d ∣ ((Int.gcd t g:Nat):Int)*x:=by
 have h:=Int.dvd_coe_gcd h1 h2;rw[Int.gcd_mul_right]at h;rw[Int.natCast_mul]at h;rcases Int.natAbs_eq x with e|e
 .rw[e];exact h
 .rw[e,Int.mul_neg];exact Int.dvd_neg.mpr h
theorem yW{d x:Int} : ∀{ts:xy}{b:Int},d ∣ b*x->(∀t∈ts,d ∣ t*x)->d ∣ gcL ts b*x
 |[],_,h,_=>h
 |t::ts,b,h,k=>yW (ts:=ts) (Tf (k t aO) h) λu hu=>k u (aJ _ hu)
def Alk(r s:List Int×Int):Prop:=r.1.length=s.1.length/\∀(k:Nat)(a b:Int),r.1[k]?=some a->s.1[k]?=some b->a*s.2=b*r.2
def lX{r:List Int×Int}(h:0<r.2):gcL (jL r).1 (jL r).2=1:=by
 have g0:=iH (ts:=r.1) h;obtain⟨d1,d2⟩:=iK (ts:=r.1) (b:=r.2);have p:0<(jL r).2:=Zzy h (XY g0) d1;have q0:=iH (ts:=(jL r).1) p;obtain⟨e1,e2⟩:=iK (ts:=(jL r).1) (b:=(jL r).2);have ci:gcL (jL r).1 (jL r).2*gcL r.1 r.2 ∣ gcL r.1 r.2*1:=by
  refine yW ?_ λt ht=>?_
  .obtain⟨u,hu⟩:=e1;have hu:r.2/gcL r.1 r.2=gcL (jL r).1 (jL r).2*u:=hu;refine⟨u,?_⟩;rw[Int.mul_one,Int.mul_right_comm,<- hu,Int.ediv_mul_cancel d1]
  .obtain⟨u,hu⟩:=e2 (t/gcL r.1 r.2) (YV.mpr ⟨t,ht,rfl⟩);refine⟨u,?_⟩;rw[Int.mul_one,Int.mul_right_comm,<- hu,Int.ediv_mul_cancel (d2 t ht)]
 rw[Int.mul_one]at ci;have:=Int.le_of_dvd g0 ci;have:gcL (jL r).1 (jL r).2<=1:=by
  refine Int.le_of_mul_le_mul_right (a:=gcL r.1 r.2) ?_ g0;lia
 lia
def least{r s:List Int×Int}(hr:0<r.2)(g:gcL r.1 r.2=1)(a:Alk r s)(h:Big N s):Big N r:=by
 have d:r.2 ∣ gcL r.1 r.2*s.2:=yW ⟨s.2,rfl⟩ λt ht=>by
  obtain⟨k,hk,rfl⟩:=List.mem_iff_getElem.mp ht;have hs:k<s.1.length:=by rwa[<- a.1]
  rw[a.2 k _ _ (aj hk) (aj hs)];exact⟨_,Int.mul_comm _ _⟩
 rw[g,TZ]at d;obtain⟨m,hm⟩:=d;have m0:0<m:=Int.pos_of_mul_pos_right (by rw[<- hm];exact h.pos) hr;refine⟨hr,?_,λt ht=>?_⟩
 .have:=Int.le_of_dvd h.pos ⟨m,hm⟩;have:=h.bot;lia
 .obtain⟨k,hk,rfl⟩:=List.mem_iff_getElem.mp ht;have hs:k<s.1.length:=by rwa[<- a.1]
  have e:=a.2 k _ _ (aj hk) (aj hs);rw[hm,Int.mul_comm r.2 m,<- Int.mul_assoc]at e;have e:=Int.eq_of_mul_eq_mul_right (WU hr) e;have b:=h.top _ (aU hs);rw[<- e,VT]at b;exact aL (Nat.le_mul_of_pos_right _ (by omega)) b
def gr(N:Nat):Nat->Nat
 |0=>N
 |m+1=>2*(gr N m*gr N m)
def sg(f:Nat->Rat):Nat->Rat
 |0=>0
 |n+1=>sg f n+f n
def sz(f:Nat->Int):Nat->Int
 |0=>0
 |n+1=>sz f n+f n
theorem jx(f g:Nat->Rat):∀n,sg (λj=>f j+g j) n=sg f n+sg g n
 |0=>by unfold sg;grind
 |n+1=>by unfold sg;rw[jx f g n];grind
theorem jd(c:Rat)(f:Nat->Rat):∀n,sg (λj=>c*f j) n=c*sg f n
 |0=>by unfold sg;grind
 |n+1=>by unfold sg;rw[jd c f n];grind
theorem cu{f g:Nat->Rat} : ∀{n},(∀j,j<n->f j=g j)->sg f n=sg g n
 |0,_=>rfl
 |n+1,h=>by unfold sg;rw[cu λj hj=>h j (WV _ hj),h n (X0 _)]
theorem jM:∀n,sg (λ_=>0) n=0
 |0=>rfl
 |n+1=>by unfold sg;rw[jM n];grind
theorem j4{v:Nat->Rat}{k:Nat} : ∀{n},sg (λj=>(if j=k then 1 else 0)*v j) n=if k<n then v k else 0
 |0=>by rw[ZZ (WZ _)];rfl
 |n+1=>by
  unfold sg;rw[j4];by_cases h:k<n
  .rw[ZY h,ZZ (VV h),ZY (WV _ h)];grind
  .by_cases e:n=k
   .subst e;rw[ZZ h,ZY rfl,ZY (X0 _)];grind
   .rw[ZZ h,ZZ e,ZZ wo];grind
theorem RG(f:Nat->Nat->Rat)(m:Nat):∀n,sg (λk=>sg (λl=>f k l) m) n=sg (λl=>sg (λk=>f k l) n) m
 |0=>by
  show(0:Rat)=sg (λ_=>0) m;rw[jM]
 |n+1=>by
  show sg (λk=>sg (λl=>f k l) m) n+sg (λl=>f n l) m=sg (λl=>sg (λk=>f k l) n+f n l) m;rw[jx,RG f m n]
theorem Qn(f:Nat->Int):∀n,((sz f n:Int):Rat)=sg (λk=>(f k:Rat)) n
 |0=>QR
 |n+1=>by unfold sz sg;rw[Rat.intCast_add,Qn f n]
theorem Ip{f:Nat->Int}{B:Nat} : ∀{n},(∀k,k<n->(f k).natAbs<=B)->(sz f n).natAbs<=n*B
 |0,_=>by unfold sz;simp
 |n+1,h=>by
  unfold sz;have:=Ip (n:=n) λk hk=>h k (WV _ hk);have:=h n (X0 _);rw[Nat.add_mul,Nat.one_mul];omega
theorem adx(f g:Nat->Int):∀n,sz (λk=>f k-g k) n=sz f n-sz g n
 |0=>rfl
 |n+1=>by unfold sz;rw[adx f g n];lia
theorem Uu{f g:Nat->Int} : ∀{n},(∀j,j<n->f j=g j)->sz f n=sz g n
 |0,_=>rfl
 |n+1,h=>by unfold sz;rw[Uu λj hj=>h j (WV _ hj),h n (X0 _)]
theorem S9{α:Type}(q:α->Bool):∀L:List α,(L.filter q).length+(L.filter λx=>!q x).length=L.length
 |[]=>rfl
 |x::L=>by
  have:=S9 q L;rw[List.filter_cons,List.filter_cons];cases h:q x with
  |true=>rw[ZY rfl,ZZ wr,List.length_cons,List.length_cons];lia
  |false=>rw[ZZ wr,ZY wr,List.length_cons,List.length_cons];lia
theorem ac1{α:Type}(f:α->Nat)(n:Nat):∀(W:Nat)(L:List α),(∀x∈L,f x<W)->W*n<L.length->∃v,n<(L.filter λx=>f x==v).length
 |0,L,h,hl=>by
  cases L with
  |nil=>simp at hl
  |cons x L=>exact absurd (h x aO) (WZ _)
 |W+1,L,h,hl=>by
  by_cases e:n<(L.filter λx=>f x==W).length
  .exact⟨W,e⟩
  .have pl:=S9 (λx=>f x==W) L;rw[Nat.add_mul,Nat.one_mul]at hl;obtain⟨v,hv⟩:=ac1 f n W (L.filter λx=>!(f x==W)) (λx hx=>by
    obtain⟨a,b⟩:=List.mem_filter.mp hx;have:=h x a;have ne:f x≠W:=λz=>by rw[z]at b;simp at b
    lia) (by omega)
   exact⟨v,aR hv (List.Sublist.length_le (List.Sublist.filter _ List.filter_sublist))⟩
theorem digits_inj{W:Nat}(hW:0<W):∀(n c d:Nat),c<W^n->d<W^n->(∀k,k<n->c/W^k%W=d/W^k%W)->c=d
 |0,c,d,hc,hd,_=>by
  rw[Nat.pow_zero]at hc hd;lia
 |n+1,c,d,hc,hd,h=>by
  have h0:=h 0 (Tk _);rw[Nat.pow_zero,Nat.div_one,Nat.div_one]at h0;have e:=digits_inj hW n (c/W) (d/W) (Nat.div_lt_of_lt_mul (by rwa[Nat.mul_comm,<- Nat.pow_succ])) (Nat.div_lt_of_lt_mul (by rw[Nat.mul_comm,<- Nat.pow_succ];exact hd)) λk hk=>by
   have:=h (k+1) (Nat.succ_lt_succ hk);rw[Nat.div_div_eq_div_mul,Nat.div_div_eq_div_mul,<- Nat.pow_succ'];exact this
  rw[<- Nat.div_add_mod c W,<- Nat.div_add_mod d W,e,h0]
theorem Zo{p:Nat}(hN:1<=N):(2*((p+1)*((2*(p+1)*N)^p*N))+1)^p<((2*(p+1)*N)^p+1)^(p+1):=by
 have w:2*((p+1)*((2*(p+1)*N)^p*N))+1<=2*(p+1)*N*((2*(p+1)*N)^p+1):=by
  have e:2*((p+1)*((2*(p+1)*N)^p*N))=2*(p+1)*N*(2*(p+1)*N)^p:=by ac_rfl
  have x1:1<=2*(p+1)*N:=VS (show 1<=2*(p+1)by lia) hN;rw[e];generalize 2*(p+1)*N=X at *;rw[Nat.mul_add,Nat.mul_one];exact Nat.add_le_add_left x1 _
 refine Y3 (Nat.pow_le_pow_left w p) ?_;rw[Nat.mul_pow,Nat.pow_succ,Nat.mul_comm];exact Nat.mul_lt_mul_of_pos_left (X0 _) (Nat.pow_pos (Tk _))
theorem ac6{p:Nat}{C:Nat->Nat->Int}(hN:1<=N)(hC:∀k l,k<=p->l<p->(C k l).natAbs<=N) :
  ∃aS:Nat->Int,(∃k,k<=p/\aS k≠0)/\(∀k,(aS k).natAbs<=(2*(p+1)*N)^p)/\∀l,l<p->sz (λk=>aS k*C k l) (p+1)=0:=by
 have ps:=Zo (p:=p) hN;generalize hB:(2*(p+1)*N)^p=B at *;generalize hO:(p+1)*(B*N)=O at *;have pT:∀c k:Nat,c/(B+1)^k%(B+1)<=B:=λc k=>UY (Nat.mod_lt _ (Tk _));have eb:∀l c,l<p->(sz (λk=>((c/(B+1)^k%(B+1):Nat):Int)*C k l) (p+1)).natAbs<=O:=λl c hl=>by
  rw[<- hO];refine Ip λk hk=>?_;rw[VT,XT];exact VS (pT c k) (hC k l (UY hk) hl)
 have all:∀q,q<=p->∃L:zD,L.Nodup/\(∀c∈L,c<(B+1)^(p+1))/\(∀l,l<q->∀c∈L,∀d∈L,sz (λk=>((c/(B+1)^k%(B+1):Nat):Int)*C k l) (p+1)=sz (λk=>((d/(B+1)^k%(B+1):Nat):Int)*C k l) (p+1))/\(2*O+1)^(p-q)<L.length:=by
  intro q
  induction q with
  |zero=>exact λ_=>⟨List.range ((B+1)^(p+1)),List.nodup_range,λc hc=>List.mem_range.mp hc,λl hl=>absurd hl (WZ _),by rwa[WP,Nat.sub_zero]⟩
  |succ q ih =>
   intro hq;obtain⟨L,nd,lt,eq,ln⟩:=ih (aL (Xs _) hq);have e1:(2*O+1)^(p-q)=(2*O+1)*(2*O+1)^(p-(q+1)):=by rw[<- Nat.pow_succ',show(p-(q+1)).succ=p-q by lia]
   rw[e1]at ln;obtain⟨v,hv⟩:=ac1 (λc=>(sz (λk=>((c/(B+1)^k%(B+1):Nat):Int)*C k q) (p+1)+O).toNat) _ _ L (λc _=>by
    have:=eb q c (aR (X0 _) hq);omega) ln
   refine⟨_,List.Pairwise.sublist List.filter_sublist nd,λc hc=>lt c (List.mem_filter.mp hc).1,λl hl c hc d hd=>?_,hv⟩;obtain⟨c1,c2⟩:=List.mem_filter.mp hc;obtain⟨d1,d2⟩:=List.mem_filter.mp hd;by_cases e:l<q
   .exact eq l e c c1 d d1
   .have e:l=q:=by lia
    subst e;have c2:=beq_iff_eq.mp c2;have d2:=beq_iff_eq.mp d2;have:=eb l c (aR hl hq);have:=eb l d (aR hl hq);omega
 obtain⟨L,nd,lt,eq,ln⟩:=all p (aG p);rw[TR,Nat.pow_zero]at ln
 match L,nd,lt,eq,ln with
 |c::d::L,nd,lt,eq,_ =>
  have ne:c≠d:=λz=>by
   rw[z]at nd;exact(List.nodup_cons.mp nd).1 aO
  refine⟨λk=>((c/(B+1)^k%(B+1):Nat):Int)-((d/(B+1)^k%(B+1):Nat):Int),?_,λk=>?_,λl hl=>?_⟩
  .by_cases h:∀k,k<p+1->c/(B+1)^k%(B+1)=d/(B+1)^k%(B+1)
   .exact absurd (digits_inj (Tk B) (p+1) c d (lt c aO) (lt d (aJ _ aO)) h) ne
   .obtain⟨k,hk⟩:=Classical.not_forall.mp h;obtain⟨k1,k2⟩:=Classical.not_imp.mp hk;exact⟨k,by exact UY k1,λz=>k2 (by
     have z:((c/(B+1)^k%(B+1):Nat):Int)-((d/(B+1)^k%(B+1):Nat):Int)=0:=z;generalize c/(B+1)^k%(B+1)=x at *;generalize d/(B+1)^k%(B+1)=y at *;lia)⟩
  .have:=pT c k;have:=pT d k;show(((c/(B+1)^k%(B+1):Nat):Int)-((d/(B+1)^k%(B+1):Nat):Int)).natAbs<=B;omega
  .rw[Uu (g:=λk=>((c/(B+1)^k%(B+1):Nat):Int)*C k l-((d/(B+1)^k%(B+1):Nat):Int)*C k l) λk _=>Int.sub_mul _ _ _,adx,eq l hl c aO d (aJ _ aO)];exact Int.sub_self _
 |[_],_,_,_,ln=>exact absurd ln wr
 |[],_,_,_,ln=>exact absurd ln wr
structure gO(A:Nat->Nat->Int)(b:Nat->Int)(m wd:Nat)(R:Nat->Nat->Rat)(p:Nat)(pv s:Nat->Nat):Prop where
 pm:p<=m
 sm:∀i,i<m->s i<m
 pw:∀l,l<p->pv l<wd
 unit:∀i l,i<m->l<p->R i (pv l)=if i=l then 1 else 0
 dec:∀i j,i<m->j<wd->(A (s i) j:Rat)=(if i<p then 0 else(b (s i):Rat)*R i j)+sg (λl=>(A (s i) (pv l):Rat)*R l j) p
 ind:∀aS:Nat->Rat,(∀j,j<wd->sg (λk=>aS k*(A (s k) j:Rat)) p=0)->∀k,k<p->aS k=0
section
variable{A:Nat->Nat->Int}{b:Nat->Int}{m wd p:Nat}{R:Nat->Nat->Rat}{pv s:Nat->Nat}
def gO.comb(h:gO A b m wd R p pv s)(aS:Nat->Rat){j:Nat}(hj:j<wd):sg (λk=>aS k*(A (s k) j:Rat)) p=sg (λl=>sg (λk=>aS k*(A (s k) (pv l):Rat)) p*R l j) p:=by
 have pm:=h.pm;rw[cu (g:=λk=>sg (λl=>aS k*(A (s k) (pv l):Rat)*R l j) p) λk hk=>?_]
 .rw[RG];refine cu λl hl=>?_;rw[cu (g:=λk=>R l j*(aS k*(A (s k) (pv l):Rat))) λk _=>Rat.mul_comm _ _,jd,Rat.mul_comm]
 .rw[h.dec k j (aR hk pm) hj,ZY hk,TK,<- jd];exact cu λl _=>(Rat.mul_assoc _ _ _).symm
def jh{x:Int}(h:x≠0):(x:Rat)≠0:=λz=>h (Rat.intCast_inj.mp (z.trans Rat.intCast_zero.symm))
def amu{m q:Nat}(hN:1<=N)(hq:q+1<=m):(2*(q+1)*N)^(q+1)<=(2*m*N)^m:=by
 have x:2*(q+1)*N<=2*m*N:=VS wo (aG N);have y:1<=2*m*N:=VS (show 1<=2*m by lia) hN;exact aL (Nat.pow_le_pow_left x _) (XU y hq)
def ae9{m q:Nat}(hN:1<=N)(hq:q+1<=m):(q+1)*((2*(q+1)*N)^q*N)<=(2*m*N)^m:=by
 refine aL ?_ (amu hN hq);have e:(2*(q+1)*N)^(q+1)=2*((q+1)*((2*(q+1)*N)^q*N)):=by
  rw[Nat.pow_succ];ac_rfl
 lia
def gO.bound(h:gO A b m wd R p pv s)(hN:1<=N)(hA:∀i j,i<m->j<wd->(A i j).natAbs<=N)(hb:∀i,i<m->0<b i/\(b i).natAbs<=N){i:Nat}(hi:i<m) :
    ∃(v:Nat->Int)(u:Int),u≠0/\u.natAbs<=(2*m*N)^m/\(∀j,j<wd->(v j).natAbs<=(2*m*N)^m)/\∀j,j<wd->R i j*(u:Rat)=(v j:Rat):=by
  have pm:=h.pm;by_cases ip:i<p
  . obtain⟨q,rfl⟩ : ∃q,p=q+1:=⟨p-1,by lia⟩
    obtain⟨aS,⟨k0,i6,j3⟩,bl,zr⟩:=ac6 (p:=q) (C:=λk l=>A (s k) (if l<i then pv l else pv (l+1))) hN λk l hk hl=>by
      refine hA _ _ (h.sm k wo) ?_;by_cases e:l<i
      . rw[ZY e];exact h.pw l (WV _ hl)
      . rw[ZZ e];exact h.pw (l+1) (Nat.succ_lt_succ hl)
    have cast:∀j,((sz (λk=>aS k*A (s k) j) (q+1):Int):Rat)=sg (λk=>(aS k:Rat)*(A (s k) j:Rat)) (q+1):=λj=>by
      rw[Qn];exact cu λk _=>XV _ _
    have zl:∀l,l<q+1->l≠i->sz (λk=>aS k*A (s k) (pv l)) (q+1)=0:=λl hl ne=>by
      by_cases e:l<i
      . have:=zr l (aR e (UY ip))
        rw[ZY e]at this;exact this
      . have:=zr (l-1) (by omega)
        rw[ZZ wo,show l-1+1=l by lia]at this;exact this
    have ci:∀j,j<wd->((sz (λk=>aS k*A (s k) j) (q+1):Int):Rat)=((sz (λk=>aS k*A (s k) (pv i)) (q+1):Int):Rat)*R i j:=λj hj=>by
      rw[cast,h.comb (λk=>(aS k:Rat)) hj,cu (g:=λl=>(if l=i then 1 else 0)*(((sz (λk=>aS k*A (s k) (pv i)) (q+1):Int):Rat)*R l j)) λl hl=>?_,j4,ZY ip];rw[<- cast (pv l)];by_cases e:l=i
      . rw[ZY e,e,Rat.one_mul]
      . rw[ZZ e,zl l hl e,QR];grind
    refine⟨λj=>sz (λk=>aS k*A (s k) j) (q+1),sz (λk=>aS k*A (s k) (pv i)) (q+1),λz=>?_,?_,λj hj=>?_,λj hj=>?_⟩
    . have:=h.ind (λk=>(aS k:Rat)) (λj hj=>by
        rw[<- cast,ci j hj,z,QR];grind) k0 (Y3 i6 (X0 _))
      exact jh j3 this
    . exact aL (Ip λk hk=>by rw[VT];exact VS (bl k) (hA _ _ (h.sm k (aR hk pm)) (h.pw i ip))) (ae9 hN (by omega))
    . exact aL (Ip λk hk=>by rw[VT];exact VS (bl k) (hA _ _ (h.sm k (aR hk pm)) hj)) (ae9 hN (by omega))
    . rw[ci j hj,Rat.mul_comm]
  . obtain⟨aS,⟨k0,i6,j3⟩,bl,zr⟩:=ac6 (p:=p) (C:=λk l=>A (s (if k<p then k else i)) (pv l)) hN λk l hk hl=>by
      refine hA _ _ (h.sm _ ?_) (h.pw l hl);by_cases e:k<p
      . rw[ZY e];exact aR e pm
      . rwa[ZZ e]
    have cast:∀j,((sz (λk=>aS k*A (s (if k<p then k else i)) j) (p+1):Int):Rat)=sg (λk=>(aS k:Rat)*(A (s k) j:Rat)) p+(aS p:Rat)*(A (s i) j:Rat):=λj=>by
      rw[Qn];show sg _ p+((aS p*A (s (if p<p then p else i)) j:Int):Rat)=_;rw[ZZ (X2 _),XV,cu (g:=λk=>(aS k:Rat)*(A (s k) j:Rat)) λk hk=>by rw[ZY hk,XV]]
    have ci:∀j,j<wd->((sz (λk=>aS k*A (s (if k<p then k else i)) j) (p+1):Int):Rat)=((aS p*b (s i):Int):Rat)*R i j:=λj hj=>by
      have e0:sg (λl=>sg (λk=>(aS k:Rat)*(A (s k) (pv l):Rat)) p*R l j) p+(aS p:Rat)*sg (λl=>(A (s i) (pv l):Rat)*R l j) p=0:=by
        rw[<- jd,<- jx,cu (g:=λ_=>0) λl hl=>?_,jM];have:=cast (pv l);rw[zr l hl,QR]at this
        calc _=(sg (λk=>(aS k:Rat)*(A (s k) (pv l):Rat)) p+(aS p:Rat)*(A (s i) (pv l):Rat))*R l j:=by grind
          _=0:=by rw[<- this];grind
      rw[cast,h.comb (λk=>(aS k:Rat)) hj,h.dec i j hi hj,ZZ ip,XV]
      grind
    have bp:=hb _ (h.sm i hi);have lp:aS p≠0:=λz=>by
      have kp:k0<p:=by
        by_cases e:k0=p
        . rw[e,z]at j3;exact absurd rfl j3
        . exact XX i6 e
      have:=h.ind (λk=>(aS k:Rat)) (λj hj=>by
        have c:=cast j;rw[ci j hj,z,Int.zero_mul,QR]at c
        grind) k0 kp
      exact jh j3 this
    refine⟨λj=>sz (λk=>aS k*A (s (if k<p then k else i)) j) (p+1),aS p*b (s i),λz=>?_,?_,λj hj=>?_,λj hj=>?_⟩
    . rcases Int.mul_eq_zero.mp z with y|y
      . exact lp y
      . lia
    . rw[VT]
      refine aL (VS (bl p) bp.2) (aL ?_ (ae9 hN (show p+1<=m by lia)));exact Zzx _ (Tk p)
    . exact aL (Ip λk hk=>by
        rw[VT];refine VS (bl k) (hA _ _ (h.sm _ ?_) hj);by_cases e:k<p
        . rw[ZY e];exact aR e pm
        . rwa[ZZ e]) (ae9 hN (show p+1<=m by lia))
    . rw[ci j hj,Rat.mul_comm]
def gO.congr(h:gO A b m wd R p pv s)(e:∀i j,i<m->R i j=R' i j):gO A b m wd R' p pv s:=by
 have pm:=h.pm;refine⟨h.pm,h.sm,h.pw,λi l hi hl=>by rw[<- e i _ hi];exact h.unit i l hi hl,λi j hi hj=>?_,h.ind⟩;rw[h.dec i j hi hj,e i j hi,cu λl hl=>by rw[e l j (aR hl pm)]]
def gO.zero(hb:∀i,i<m->0<b i):gO A b m wd (λi j=>(A i j:Rat)/(b i:Rat)) 0 pv id:=by
 refine⟨aZ _,λi hi=>hi,λl hl=>absurd hl (WZ _),λi l _ hl=>absurd hl (WZ _),λi j hi hj=>?_,λaS _ k hk=>absurd hk (WZ _)⟩;rw[ZZ (WZ _)];have:=jh (WU (hb i hi));show(A i j:Rat)=(b i:Rat)*((A i j:Rat)/(b i:Rat))+0
 grind
def sw(p q x:Nat):Nat:=if x=p then q else if x=q then p else x
def gO.swap(h:gO A b m wd R p pv s){q:Nat}(hp:p<=q)(hq:q<m)(hR:∀i j,i<m->j<wd->R' i j=R (sw p q i) j):gO A b m wd R' p pv (λi=>s (sw p q i)):=by
 have pm:=h.pm;have sl:∀l,l<p->sw p q l=l:=λl hl=>by unfold sw;rw[ZZ (aQ hl),ZZ wo]
 have sm:∀i,i<m->sw p q i<m:=λi hi=>by
  unfold sw;split
  .exact hq
  .split<;>omega
 have sp:∀i,(sw p q i<p)↔i<p:=λi=>by
  unfold sw;split
  .lia
  .split<;>lia
 refine⟨pm,λi hi=>h.sm _ (sm i hi),h.pw,λi l hi hl=>?_,λi j hi hj=>?_,λaS hz=>?_⟩
 .rw[hR i _ hi (h.pw l hl),h.unit _ l (sm i hi) hl];by_cases e:i=l
  .rw[ZY e,e,ZY (sl l hl)]
  .rw[ZZ e,ZZ λz=>e ?_];have:i<p:=(sp i).mp (Y3 (WG z) hl);rw[<- z,sl i this]
 .rw[h.dec _ j (sm i hi) hj,hR i j hi hj]
  congr 1
  .by_cases e:i<p
   .rw[ZY e,ZY ((sp i).mpr e)]
   .rw[ZZ e,ZZ λz=>e ((sp i).mp z)]
  .exact cu λl hl=>by rw[hR l j (aR hl pm) hj,sl l hl]
 .exact h.ind aS λj hj=>by
   rw[<- hz j hj];exact cu λk hk=>by rw[sl k hk]
def gO.pivot(h:gO A b m wd R p pv s)(hp:p<m)(hb:∀i,i<m->0<b i){c:Nat}(hc:c<wd)(h0:R p c≠0)(nh:∀j,j<wd->R' p j*R p c=R p j)(n9:∀i j,i<m->i≠p->j<wd->R' i j=R i j-R i c*R' p j) :
  gO A b m wd R' (p+1) (λl=>if l=p then c else pv l) s:=by
 have pm:=h.pm;have one:R' p c=1:=by
  have:=nh c hc
  grind
 have zp:∀l,l<p->R' p (pv l)=0:=λl hl=>by
  have:=nh (pv l) (h.pw l hl);rw[h.unit p l hp hl,ZZ (VV hl)]at this
  grind
 have pvl:∀l,l<p->(if l=p then c else pv l)=pv l:=λl hl=>ZZ (aQ hl);have old:∀i j,i<m->i≠p->j<wd->R i j=R' i j+R i c*R' p j:=λi j hi ne hj=>by rw[n9 i j hi ne hj];grind
 have dec:∀i j,i<m->j<wd->(A (s i) j:Rat)=(if i<p+1 then 0 else(b (s i):Rat)*R' i j)+sg (λl=>(A (s i) (if l=p then c else pv l):Rat)*R' l j) (p+1):=λi j hi hj=>by
  have dj:=h.dec i j hi hj;have dc:=h.dec i c hi hc;have ej:sg (λl=>(A (s i) (pv l):Rat)*R l j) p=sg (λl=>(A (s i) (pv l):Rat)*R' l j) p+R' p j*sg (λl=>(A (s i) (pv l):Rat)*R l c) p:=by
   rw[<- jd,<- jx];exact cu λl hl=>by rw[old l j (Th hl hp) (aQ hl) hj];grind
  rw[ej]at dj;show _=_+(sg _ p+(A (s i) (if p=p then c else pv p):Rat)*R' p j);rw[ZY rfl,cu (g:=λl=>(A (s i) (pv l):Rat)*R' l j) λl hl=>by rw[pvl l hl]];by_cases e:i<p
  .rw[ZY (WV _ e)];rw[ZY e]at dj dc
   grind
  .rw[ZZ e]at dj dc;by_cases e2:i=p
   .rw[ZY wo];subst e2;have:=nh j hj
    grind
   .rw[ZZ wo];have:=old i j hi e2 hj
    grind
 refine⟨hp,h.sm,λl hl=>?_,λi l hi hl=>?_,dec,λaS hz=>?_⟩
 .by_cases e:l=p
  .show(if l=p then c else pv l)<wd;rwa[ZY e]
  .show(if l=p then c else pv l)<wd;rw[ZZ e];exact h.pw l (XX (UY hl) e)
 .show R' i (if l=p then c else pv l)=_;by_cases e:l=p
  .rw[ZY e,e];by_cases ip:i=p
   .rw[ZY ip,ip];exact one
   .rw[ZZ ip,n9 i c hi ip hc,one];grind
  .rw[ZZ e];have k6:l<p:=by exact XX (UY hl) e
   by_cases ip:i=p
   .rw[ip,zp l k6,ZZ (Ne.symm e)]
   .rw[n9 i _ hi ip (h.pw l k6),zp l k6,h.unit i l hi k6];grind
 .have lp:aS p=0:=by
   by_cases z:aS p=0
   .exact z
   .exfalso

    have hj:∀j,j<wd->sg (λk=>aS k*(A (s k) j:Rat)) p=-(aS p*(A (s p) j:Rat)):=λj hj=>by
     have:sg (λk=>aS k*(A (s k) j:Rat)) p+aS p*(A (s p) j:Rat)=0:=hz j hj
     grind
    have dk:=h.comb aS hc;rw[hj c hc,cu (g:=λl=>-(aS p)*((A (s p) (pv l):Rat)*R l c)) λl hl=>by rw[hj _ (h.pw l hl)];grind,jd]at dk;have dc:=h.dec p c hp hc;rw[ZZ (X2 p)]at dc;have b0:=jh (WU (hb _ (h.sm p hp)));have:aS p*((b (s p):Rat)*R p c)=0:=by rw[dc]at dk;grind
    grind
  intro k hk;by_cases e:k=p
  .rw[e];exact lp
  .refine h.ind aS (λj hj=>?_) k (XX (UY hk) e);have:sg (λk=>aS k*(A (s k) j:Rat)) p+aS p*(A (s p) j:Rat)=0:=hz j hj;rw[lp]at this
   grind
end
def vr(r:List Int×Int)(j:Nat):Rat:=((r.1.getD j 0:Int):Rat)/(r.2:Rat)
def Nh{f:Int->Int}(h0:f 0=0)(xs:xy)(j:Nat):(xs.map f).getD j 0=f (xs.getD j 0):=by
 rw[au,au,aq];cases xs[j]? with
 |none=>exact h0.symm
 |some t=>rfl
theorem qd{r:List Int×Int}(h:0<r.2)(j:Nat):vr (jL r) j=vr r j:=by
 have g0:=iH (ts:=r.1) h;obtain⟨d1,d2⟩:=iK (ts:=r.1) (b:=r.2);have e1:(jL r).1.getD j 0=r.1.getD j 0/gcL r.1 r.2:=Nh (f:=λt=>t/gcL r.1 r.2) (Int.zero_ediv _) r.1 j;have d3:gcL r.1 r.2 ∣ r.1.getD j 0:=by
  rw[au];cases e:r.1[j]? with
  |none=>exact⟨0,by rw[Int.mul_zero];rfl⟩
  |some t=>exact d2 t (aC e)
 have e2:(jL r).2=r.2/gcL r.1 r.2:=rfl;unfold vr;rw[e1,e2];generalize r.1.getD j 0=t at *;generalize gcL r.1 r.2=g at *;obtain⟨u,hu⟩:=d3;obtain⟨v,hv⟩:=d1;rw[hu,hv,QQ _ (WU g0),QQ _ (WU g0),XV,XV];have v0:v≠0:=λz=>by rw[hv,z,Int.mul_zero]at h;lia
 have:=jh v0;have:=jh (WU g0)
 grind
def j9{r:List Int×Int}{c:Ξ}(h:0<r.2)(hc:0<c.2)(j:Nat):vr (jc r c) j=vr r j*((c.1:Rat)/(c.2:Rat)):=by
 have e1:(jc r c).1.getD j 0=r.1.getD j 0*c.1:=Nh (f:=λt=>t*c.1) (Int.zero_mul _) r.1 j;have e2:(jc r c).2=r.2*c.2:=rfl;unfold vr;rw[e1,e2,XV,XV];have:=jh (WU h);have:=jh (WU hc)
 grind
theorem nZ{r p:List Int×Int}{c:Ξ}(hr:0<r.2)(hp:0<p.2)(hc:0<c.2)(hl:r.1.length=p.1.length)(j:Nat):vr (oR r p c) j=vr r j+((c.1:Rat)/(c.2:Rat))*vr p j:=by
 have hB:=XZ hp hc;have g0:=akm (t:=r.2) hB;obtain⟨u,hu⟩:=Int.gcd_dvd_left r.2 (p.2*c.2);obtain⟨v,hv⟩:=JS r.2 (p.2*c.2);have es:oR r p c=(List.zipWith (λx y=>x*v+y*(u*c.1)) r.1 p.1,r.2*v):=by
  unfold oR;generalize((Int.gcd r.2 (p.2*c.2):Nat):Int)=g at g0 hu hv ⊢;have e1:p.2*c.2/g=v:=by rw[hv,QQ _ (WU g0)]
  have e2:r.2/g=u:=by
   conv=>lhs;rw[hu]
   exact QQ _ (WU g0)
  rw[e1,e2]
 generalize((Int.gcd r.2 (p.2*c.2):Nat):Int)=g at g0 hu hv;have v0:0<v:=Int.pos_of_mul_pos_right (by rwa[<- hv]) g0;have ez:(List.zipWith (λx y=>x*v+y*(u*c.1)) r.1 p.1).getD j 0=r.1.getD j 0*v+p.1.getD j 0*(u*c.1):=by
  rw[au,au,au,List.getElem?_zipWith];by_cases e:j<r.1.length
  .rw[aj e,aj (aR e (WG hl))];rfl
  .rw[aM (Up e),aM wo];show(0:Int)=0*v+0*(u*c.1);rw[Int.zero_mul,Int.zero_mul];rfl
 rw[es];unfold vr;show((List.zipWith (λx y=>x*v+y*(u*c.1)) r.1 p.1).getD j 0:Rat)/((r.2*v:Int):Rat)=_;rw[ez];generalize r.1.getD j 0=x;generalize p.1.getD j 0=y;have hu':(r.2:Rat)=(g:Rat)*(u:Rat):=by rw[<- XV,<- hu]
 have m3:(p.2:Rat)*(c.2:Rat)=(g:Rat)*(v:Rat):=by rw[<- XV,<- XV,hv]
 have r0:=jh (WU hr);have p0:=jh (WU hp);have c0:=jh (WU hc);have q0:=jh (WU v0);have k0:=jh (WU g0);rw[Rat.intCast_add,XV,XV,XV,XV];generalize(r.2:Rat)=r2 at *;generalize(p.2:Rat)=p2 at *;generalize(c.2:Rat)=c2 at *;generalize(c.1:Rat)=c1 at *;generalize(g:Rat)=gg at *;generalize(u:Rat)=uu at *;generalize(v:Rat)=vv at *;generalize(x:Rat)=xx at *;generalize(y:Rat)=yy at *;have e1:(xx*vv+yy*(uu*c1))/(r2*vv)=xx/r2+yy*(uu*c1)/(r2*vv):=by grind
 have e2:yy*(uu*c1)/(r2*vv)=c1/c2*(yy/p2):=by
  have:uu*(c2*p2)=r2*vv:=by rw[hu',Rat.mul_comm c2 p2,m3];grind
  grind
 rw[e1,e2]
def nQ{M wd:Nat}{r:List Int×Int}(hr:0<r.2)(g:gcL r.1 r.2=1)(hw:r.1.length=wd){v:Nat->Int}{u:Int}(u0:u≠0)(ub:u.natAbs<=M)(vb:∀j,j<wd->(v j).natAbs<=M)(e:∀j,j<wd->vr r j*(u:Rat)=(v j:Rat)):Big M r:=by
 refine least (s:=((List.range wd).map λj=>v j*u.sign,u.natAbs)) hr g ⟨?_,λk a b ha hb=>?_⟩ ⟨?_,?_,λt ht=>?_⟩
 .show r.1.length=((List.range wd).map λj=>v j*u.sign).length;rw[hw,ak,WP]
 .have kw:k<wd:=by rw[<- hw];exact(ao.mp ha).1
  have hb:((List.range wd).map λj=>v j*u.sign)[k]?=some b:=hb;rw[aq,VX kw]at hb;cases hb;show a*((u.natAbs:Nat):Int)=v k*u.sign*r.2;have ek:=e k kw;unfold vr at ek;rw[au,ha]at ek;have ek:(a:Rat)/(r.2:Rat)*(u:Rat)=(v k:Rat):=ek;have r0:=jh (WU hr);have k2:a*u=v k*r.2:=by
   refine Rat.intCast_inj.mp ?_;rw[XV,XV]
   grind
  have k1:((u.natAbs:Nat):Int)=u*u.sign:=(Int.mul_sign_self u).symm;rw[k1,<- Int.mul_assoc,k2];ac_rfl
 .show(0:Int)<(u.natAbs:Nat);lia
 .show(((u.natAbs:Nat):Int)).natAbs<=M;rwa[XT]
 .obtain⟨j,hj,rfl⟩:=YV.mp ht;rw[VT,Int.natAbs_sign_of_ne_zero u0,Nat.mul_one];exact vb j (List.mem_range.mp hj)
end Rw
namespace K36
open PySem PyProof.Rows L2
abbrev Am:=top 10
abbrev iz:Str:="is_whole"
def U8:bK WD gj (bG Am):=fsc
abbrev Et:=top 11
abbrev lF:Str:="divisor"
def W7:bK Nk cW (bG Et):=fsc
abbrev RQ:=top 15
abbrev tR:Str:="ratio"
def ada:bK Rk oF (bG RQ):=fsc
abbrev Aq:=top 16
abbrev oE:Str:="is_ratio"
def Ul:bK Bc jq (bG Aq):=fsc
abbrev W5:=top 17
abbrev Rz:Str:="plus"
def afe:bK aiw CZ (bG W5):=fsc
abbrev Q6:=top 18
abbrev wM:Str:="minus"
def abb:bK ae1 qp (bG Q6):=fsc
abbrev QL:=top 19
abbrev Jj:Str:="times"
def adp:bK afo v8 (bG QL):=fsc
abbrev Wg:=top 20
abbrev Sv:Str:="over"
def aeL:bK ahJ B_ (bG Wg):=fsc
abbrev Ph:=top 21
abbrev Ck:Str:="under"
def adz:bK aeU uf (bG Ph):=fsc
abbrev H_:=top 23
abbrev Du:Str:="level"
def adn:bK YL ud (bG H_):=fsc
abbrev Rj:=top 24
abbrev Iz:Str:="total"
def abV:bK Ru zm (bG Rj):=fsc
abbrev R3:=top 26
abbrev CJ:Str:="fits"
def Za:bK Xe vq (bG R3):=fsc
abbrev pI:=top 27
abbrev gP:Str:="check_plan"
def Af:bK uw fB (bG pI):=fsc
abbrev DX:=top 29
abbrev zG:Str:="lowest"
def aaf:bK Tp pL (bG DX):=fsc
abbrev rJ:=top 30
abbrev uL:Str:="row_times"
def QH:bK v9 mR (bG rJ):=fsc
abbrev uU:=top 31
abbrev yP:Str:="row_plus"
def Gm:bK Bg oH (bG uU):=fsc
abbrev yF:=top 32
abbrev u_:Str:="take_step"
def Qt:bK yM mK (bG yF):=fsc
abbrev yj:=top 33
abbrev pC:Str:="number_at"
def RJ:bK wg jX (bG yj):=fsc
abbrev jz:=top 34
abbrev oU:Str:="fractions_of"
def Gx:bK jy iT (bG jz):=fsc
abbrev uF:=top 35
abbrev rZ:Str:="first_from"
def Lh:bK BK j7 (bG uF):=fsc
abbrev QD:=top 36
abbrev CW:Str:="go_on"
def acS:bK Oi tO (bG QD):=fsc
abbrev xM:=top 37
abbrev uP:Str:="begin_row"
def Pj:bK Gh mH (bG xM):=fsc
abbrev pU:=top 38
abbrev oY:Str:="clear_column"
def GF:bK xT iV (bG pU):=fsc
abbrev zB:=top 39
abbrev Aw:Str:="reduced"
def Jy:bK FP qJ (bG zB):=fsc
abbrev Az:=top 41
abbrev vO:Str:="width_of"
def Vb:bK Ww oK (bG Az):=fsc
abbrev ou:=top 42
abbrev p7:Str:="with_rights"
def JK:bK tD jt (bG ou):=fsc
abbrev q_:=top 43
abbrev vm:Str:="begins_of"
def BW:bK xO lV (bG q_):=fsc
abbrev Fy:=top 44
abbrev Bh:Str:="odd_row"
def Xj:bK Fj qP (bG Fy):=fsc
abbrev yh:=top 45
abbrev vp:Str:="answer_of"
def PJ:bK Gg mC (bG yh):=fsc
abbrev j5:=top 46
abbrev qQ:Str:="single_rows"
def Kh:bK j8 jC (bG j5):=fsc
abbrev sH:=top 47
abbrev qG:Str:="only_answer"
def Kv:bK Aa jH (bG sH):=fsc
abbrev pq:=top 49
abbrev fZ:Str:="goal_marks"
def zR:bK uY d_ (bG pq):=fsc
abbrev HW:=top 50
abbrev Jm:Str:="meets"
def aaM:bK Rm yx (bG HW):=fsc
abbrev zM:=top 51
abbrev lA:Str:="by_some"
def Wy:bK Eu nF (bG zM):=fsc
abbrev m6:=top 52
abbrev yD:Str:="steps_to"
def yr:bK pP oO (bG m6):=fsc
abbrev mF:=top 54
abbrev oW:Str:="chosen_doors"
def GD:bK qz iR (bG mF):=fsc
abbrev yq:=top 55
abbrev uR:Str:="left_rows"
def RL:bK Gq mQ (bG yq):=fsc
abbrev jR:=top 57
abbrev sU:Str:="on_the_way"
def zQ:bK iB kj (bG jR):=fsc
abbrev mG:=top 58
abbrev gF:Str:="plan_chances"
def vL:bK qN eG (bG mG):=fsc
abbrev jQ:=top 59
abbrev gQ:Str:="chances_of"
def nH:bK uX fD (bG jQ):=fsc
abbrev zy:=top 62
abbrev pY:Str:="is_word"
def V7:bK FN lK (bG zy):=fsc
abbrev uT:=top 64
abbrev nJ:Str:="check_head"
def Ln:bK uH iZ (bG uT):=fsc
abbrev mV:=top 65
abbrev iG:Str:="check_room_name"
def Ak:bK Bx eY (bG mV):=fsc
abbrev qW:=top 66
abbrev lq:Str:="check_chance"
def Hg:bK I8 gD (bG qW):=fsc
abbrev nY:=top 67
abbrev qw:Str:="check_pairs"
def JW:bK rP jA (bG nY):=fsc
abbrev n8:=top 68
abbrev pZ:Str:="joined_ways"
def K8:bK z8 jK (bG n8):=fsc
abbrev sY:=top 75
abbrev qj:Str:="check_share"
def Ih:bK LR ju (bG sY):=fsc
abbrev uQ:=top 76
abbrev rQ:Str:="numbers_of"
def Ng:bK u5 kh (bG uQ):=fsc
abbrev o9:=top 77
abbrev nq:Str:="numbered_ways"
def Ez:bK vI g8 (bG o9):=fsc
abbrev yL:=top 78
abbrev uN:Str:="offers_of"
def Qe:bK Gf lW (bG yL):=fsc
abbrev Xn:=top 81
abbrev HJ:Str:="_law_cell"
def aeu:bK VR zL (bG Xn):=fsc
abbrev JN:=top 82
abbrev lM:Str:="_law_stream"
def aaJ:bK U7 gC (bG JN):=fsc
abbrev abD:=top 83
abbrev Ot:Str:="_law_gcd"
def abM:bK agm Eh (bG abD):=fsc
abbrev Jl:=top 84
abbrev zF:Str:="_law_ratio"
def aaC:bK Uq pN (bG Jl):=fsc
abbrev zJ:=top 85
abbrev JV:Str:="_law_names"
def aaR:bK ux vV (bG zJ):=fsc
abbrev Av:=top 86
abbrev Pq:Str:="_law_door"
def Qy:bK u9 Dc (bG Av):=fsc
abbrev HD:=top 87
abbrev Kr:Str:="_law_doors"
def Vu:bK R8 wj (bG HD):=fsc
abbrev Cd:=top 88
abbrev JZ:Str:="_law_built"
def Vm:bK Cm yw (bG Cd):=fsc
abbrev Pa:=top 89
abbrev O1:Str:="_law_hall"
def aeh:bK W2 Cv (bG Pa):=fsc
abbrev Xw:=top 90
abbrev Qp:Str:="_law_size"
def afB:bK Xp Dz (bG Xw):=fsc
abbrev Qu:=top 91
abbrev Qo:Str:="_law_ways"
def adR:bK ac2 Bw (bG Qu):=fsc
abbrev Hy:=top 92
abbrev Kw:Str:="_law_goals"
def adw:bK Pg xR (bG Hy):=fsc
abbrev Qc:=top 93
abbrev Je:Str:="_law_whole"
def abL:bK Dl yO (bG Qc):=fsc
abbrev sE:=top 94
abbrev qT:Str:="_law_is_fraction"
def Ji:bK Mj jr (bG sE):=fsc
abbrev rA:=top 95
abbrev vg:Str:="_law_fractions"
def QC:bK yG mL (bG rA):=fsc
abbrev qU:=top 96
abbrev wU:Str:="_law_all_ways"
def Vq:bK pR oJ (bG qU):=fsc
abbrev W3:=top 97
abbrev Qa:Str:="_law_mean"
def aej:bK acO Cr (bG W3):=fsc
abbrev SJ:=top 98
abbrev Km:Str:="_law_taken"
def abq:bK Ye wz (bG SJ):=fsc
abbrev Kc:=top 99
abbrev P_:Str:="_law_near"
def ae2:bK RW Br (bG Kc):=fsc
abbrev Fq:=top 100
abbrev Ax:Str:="_law_chances"
def Xo:bK Oh qy (bG Fq):=fsc
abbrev KD:=top 101
abbrev Ef:Str:="_law_chosen"
def ZW:bK Vg tX (bG KD):=fsc
abbrev Fg:=top 102
abbrev uV:Str:="_law_refused"
def qg:bK NP m_ (bG Fg):=fsc
abbrev Ke:=top 103
abbrev FW:Str:="_law_spoilt"
def ZQ:bK Ti tV (bG Ke):=fsc
abbrev aaS:=top 104
abbrev V6:Str:="_law_odd"
def aic:bK amV JT (bG aaS):=fsc
abbrev rY:=top 105
abbrev qm:Str:="_law_goals_first"
def KN:bK Ae jJ (bG rY):=fsc
abbrev T5:=top 106
abbrev Xl:Str:="law"
def Wu:bK abj R9 (bG T5):=fsc
abbrev xJ:Stmt:=gK 69 0
abbrev Dv:Str:="__init__"
abbrev Dt:Str:="Door.__init__"
def O5:bK wN jT (bG xJ):=fsc
abbrev vR:Stmt:=gK 69 1
abbrev Dk:Str:="ways"
abbrev Cw:Str:="Door.ways"
def Rn:bK Uc lY (bG vR):=fsc
abbrev yK:Stmt:=gK 70 0
abbrev Dp:Str:="__init__"
abbrev DG:Str:="Sure.__init__"
def Rr:bK vZ mO (bG yK):=fsc
abbrev uI:Stmt:=gK 71 0
abbrev zX:Str:="__init__"
abbrev zW:Str:="Mixed.__init__"
def Lj:bK um gR (bG uI):=fsc
abbrev wL:Stmt:=gK 72 0
abbrev Dd:Str:="__init__"
abbrev DY:Str:="Toss.__init__"
def Rt:bK Gr mq (bG wL):=fsc
abbrev rF:Stmt:=gK 73 0
abbrev Ce:Str:="__init__"
abbrev Df:Str:="Even.__init__"
def Sx:bK wY mj (bG rF):=fsc
abbrev qZ:Stmt:=gK 79 0
abbrev BX:Str:="__init__"
abbrev Cq:Str:="Hall.__init__"
def Ol:bK yU mX (bG qZ):=fsc
abbrev yg:Stmt:=gK 79 1
abbrev CG:Str:="size"
abbrev Bv:Str:="Hall.size"
def Oo:bK VG fj (bG yg):=fsc
abbrev jj:Stmt:=gK 79 4
abbrev lE:Str:="check_room"
abbrev lB:Str:="Hall.check_room"
def pQ:bK Di dh (bG jj):=fsc
abbrev nG:Stmt:=gK 79 6
abbrev wQ:Str:="offers"
abbrev yu:Str:="Hall.offers"
def J3:bK sJ gA (bG nG):=fsc
abbrev tH:Stmt:=gK 7 0
abbrev xH:Str:="__init__"
abbrev za:Str:="NoRoom.__init__"
def Jo:bK Mr jw (bG tH):=fsc
abbrev rO:Stmt:=gK 8 0
abbrev xP:Str:="__init__"
abbrev xU:Str:="NoPlan.__init__"
def Jf:bK Nb jG (bG rO):=fsc
structure Adr where
 HallError:Addr
 NoRoom:Addr
 NoPlan:Addr
 Door:Addr
 Sure:Addr
 Mixed:Addr
 Toss:Addr
 Even:Addr
 Hall:Addr
 NOUGHT:Addr
 ONE:Addr
 Door_init:Addr
 Door_ways:Addr
 Sure_init:Addr
 Mixed_init:Addr
 Toss_init:Addr
 Even_init:Addr
 Hall_init:Addr
 Hall_size:Addr
 Hall_check_room:Addr
 Hall_offers:Addr
 NoRoom_init:Addr
 NoPlan_init:Addr
structure Txt(K:Frag)(mg:Str->Ψ)(D:Adr):Prop where
 acj:mg "Door"=some (.ref D.Door)
 ahf:mg "Even"=some (.ref D.Even)
 ag5:mg "Hall"=some (.ref D.Hall)
 yE:mg "HallError"=some (.ref D.HallError)
 Sg:mg "Mixed"=some (.ref D.Mixed)
 kE:mg "NOUGHT"=some (.ref D.NOUGHT)
 Cj:mg "NoPlan"=some (.ref D.NoPlan)
 Ib:mg "NoRoom"=some (.ref D.NoRoom)
 zT:mg "ONE"=some (.ref D.ONE)
 aiX:mg "Sure"=some (.ref D.Sure)
 ahy:mg "Toss"=some (.ref D.Toss)
 U0:mroIn K D.HallError (.type "BaseException")=some true
 TX:typeIn K (.ref D.HallError)=some (.type "type")
 Jb:∃u,mg "LONGEST_WORD"=some u/\z4 (.int 8) u
 i_:∀H,SqT K H D.NOUGHT [.int 0,.int 1]
 sV:∀H,SqT K H D.ONE [.int 1,.int 1]
 abH:Cls K D.Door
 Oz:Meth K D.Door "ways" D.Door_ways
 M6:cg K D.Door "leads"
 Oq:cg K D.Door "name"
 GK:cg K D.Door "numbers"
 G8:cg K D.Door "offered"
 T6:cg K D.Door "pay"
 MK:cg K D.Door "share"
 aeJ:Mk K D.Sure D.Sure_init
 abk:Cls K D.Sure
 Qh:Meth K D.Sure "ways" D.Door_ways
 Lz:cg K D.Sure "leads"
 Ra:cg K D.Sure "name"
 Gy:cg K D.Sure "numbers"
 Hi:cg K D.Sure "offered"
 S6:cg K D.Sure "pay"
 Ly:cg K D.Sure "share"
 ab4:Mk K D.Mixed D.Mixed_init
 Zz:Cls K D.Mixed
 Mh:Meth K D.Mixed "ways" D.Door_ways
 Im:cg K D.Mixed "leads"
 Mi:cg K D.Mixed "name"
 Es:cg K D.Mixed "numbers"
 Fz:cg K D.Mixed "offered"
 Qd:cg K D.Mixed "pay"
 JD:cg K D.Mixed "share"
 ad2:Mk K D.Toss D.Toss_init
 ab8:Cls K D.Toss
 QF:Meth K D.Toss "ways" D.Door_ways
 M9:cg K D.Toss "leads"
 Ox:cg K D.Toss "name"
 G_:cg K D.Toss "numbers"
 G5:cg K D.Toss "offered"
 Tq:cg K D.Toss "pay"
 Lk:cg K D.Toss "share"
 afw:Mk K D.Even D.Even_init
 ace:Cls K D.Even
 QK:Meth K D.Even "ways" D.Door_ways
 LK:cg K D.Even "leads"
 Q0:cg K D.Even "name"
 Gv:cg K D.Even "numbers"
 Hh:cg K D.Even "offered"
 Vz:cg K D.Even "pay"
 Mf:cg K D.Even "share"
 afb:Mk K D.Hall D.Hall_init
 g_:Cls K D.Hall
 lD:Meth K D.Hall "check_room" D.Hall_check_room
 ql:Meth K D.Hall "offers" D.Hall_offers
 jP:Meth K D.Hall "size" D.Hall_size
 MN:cg K D.Hall "leads"
 Q_:cg K D.Hall "name"
 G7:cg K D.Hall "numbers"
 GP:cg K D.Hall "offered"
 U6:cg K D.Hall "pay"
 MJ:cg K D.Hall "share"
 xi_NoRoom:Lq K D.NoRoom D.HallError D.NoRoom_init
 xs_NoRoom:ZJ K D.NoRoom
 xk_NoRoom:Ej K D.NoRoom
 hd_NoRoom:hasDictIn K D.NoRoom=true
 sm_NoRoom:mroIn K D.NoRoom (.ref D.HallError)=some true
 vQ:cg K D.NoRoom "room"
 ki_NoRoom_NoPlan:kitOne K (.ref D.NoRoom) (.ref D.NoPlan)=some false
 ki_NoRoom_NoRoom:kitOne K (.ref D.NoRoom) (.ref D.NoRoom)=some true
 xi_NoPlan:Lq K D.NoPlan D.HallError D.NoPlan_init
 xs_NoPlan:ZJ K D.NoPlan
 xk_NoPlan:Ej K D.NoPlan
 hd_NoPlan:hasDictIn K D.NoPlan=true
 sm_NoPlan:mroIn K D.NoPlan (.ref D.HallError)=some true
 zq:cg K D.NoPlan "room"
 ki_NoPlan_NoPlan:kitOne K (.ref D.NoPlan) (.ref D.NoPlan)=some true
 ki_NoPlan_NoRoom:kitOne K (.ref D.NoPlan) (.ref D.NoRoom)=some false
 ib_HallError:adI K D.HallError
 Dm:Gj K D.Door "__init__" D.Door_init
 O6:vP K Dv Dt xJ jT D.Door_init
 Rb:vP K Dk Cw vR lY D.Door_ways
 Sd:vP K Dp DG yK mO D.Sure_init
 z6:Gj K D.Mixed "__init__" D.Mixed_init
 LQ:vP K zX zW uI gR D.Mixed_init
 Pu:vP K Dd DY wL mq D.Toss_init
 Rh:vP K Ce Df rF mj D.Even_init
 Sy:vP K BX Cq qZ mX D.Hall_init
 Qk:vP K CG Bv yg fj D.Hall_size
 p8:vP K lE lB jj dh D.Hall_check_room
 Ij:vP K wQ yu nG gA D.Hall_offers
 K7:vP K xH za tH jw D.NoRoom_init
 Jc:vP K xP xU rO jG D.NoPlan_init
 Ve:mg "abs"=none
 agk:mg "all"=none
 acz:mg "any"=none
 Pn:mg "bool"=none
 jD:mg "enumerate"=none
 abS:mg "int"=none
 cH:mg "isinstance"=none
 dI:mg "len"=none
 qH:mg "list"=none
 alw:mg "min"=none
 fQ:mg "range"=none
 acE:mg "sorted"=none
 ajI:mg "str"=none
 agd:mg "sum"=none
 Sw:mg "tuple"=none
 Uo:mg "zip"=none
 Xi:cL K mg iz Am gj
 aaD:cL K mg lF Et cW
 aes:cL K mg tR RQ oF
 W6:cL K mg oE Aq jq
 aij:cL K mg Rz W5 CZ
 aey:cL K mg wM Q6 qp
 aep:cL K mg Jj QL v8
 aie:cL K mg Sv Wg B_
 aeR:cL K mg Ck Ph uf
 afJ:cL K mg Du H_ ud
 f_total:cL K mg Iz Rj zm
 acv:cL K mg CJ R3 vq
 DW:cL K mg gP pI fB
 aa0:cL K mg zG DX pL
 UJ:cL K mg uL rJ mR
 WX:cL K mg yP uU oH
 Vy:cL K mg u_ yF mK
 Ug:cL K mg pC yj jX
 Il:cL K mg oU jz iT
 R0:cL K mg rZ uF j7
 aeP:cL K mg CW QD tO
 VD:cL K mg uP xM mH
 JC:cL K mg oY pU iV
 aam:cL K mg Aw zB qJ
 Xu:cL K mg vO Az oK
 Ms:cL K mg p7 ou jt
 T9:cL K mg vm q_ lV
 aan:cL K mg Bh Fy qP
 T8:cL K mg vp yh mC
 Lx:cL K mg qQ j5 jC
 M5:cL K mg qG sH jH
 CP:cL K mg fZ pq d_
 afD:cL K mg Jm HW yx
 aaK:cL K mg lA zM nF
 Wx:cL K mg yD m6 oO
 Ky:cL K mg oW mF iR
 SN:cL K mg uR yq mQ
 Qi:cL K mg sU jR kj
 K_:cL K mg gF mG eG
 CN:cL K mg gQ jQ fD
 aaL:cL K mg pY zy lK
 Rv:cL K mg nJ uT iZ
 BJ:cL K mg iG mV eY
 Ko:cL K mg lq qW gD
 M8:cL K mg qw nY jA
 Mp:cL K mg pZ n8 jK
 Mw:cL K mg qj sY ju
 Ss:cL K mg rQ uQ kh
 G4:cL K mg nq o9 g8
 TV:cL K mg uN yL lW
 ahI:cL K mg HJ Xn zL
 adt:cL K mg lM JN gC
 an0:cL K mg Ot abD Eh
 acN:cL K mg zF Jl pN
 adZ:cL K mg JV zJ vV
 ahe:cL K mg Pq Av Dc
 afU:cL K mg Kr HD wj
 af5:cL K mg JZ Cd yw
 aje:cL K mg O1 Pa Cv
 aif:cL K mg Qp Xw Dz
 agV:cL K mg Qo Qu Bw
 afZ:cL K mg Kw Hy xR
 ad4:cL K mg Je Qc yO
 Mx:cL K mg qT sE jr
 Uz:cL K mg vg rA mL
 Xg:cL K mg wU qU oJ
 ahK:cL K mg Qa W3 Cr
 afM:cL K mg Km SJ wz
 agQ:cL K mg P_ Kc Br
 ZS:cL K mg Ax Fq qy
 acM:cL K mg Ef KD tX
 ZC:cL K mg uV Fg m_
 ab7:cL K mg FW Ke tV
 aky:cL K mg V6 aaS JT
 MF:cL K mg qm rY jJ
def Fam(D:Adr)(C:Addr):Prop:=C=D.Door\/C=D.Sure\/C=D.Mixed\/C=D.Toss\/C=D.Even\/C=D.Hall
variable{D:Adr}{c r s:Rat}{q i j m n k wd N:Nat}{b:Nat->Rat}{a:Int}{x:Str}{ws ps:zh}{α:Type}{E:DT}{o:zC}{ac:xp}{ns:Θ}{st pl:zt}{d:xC}{ds:wf}{S:Nat->Bool}{gs cm:zD}{mk:xk}{X:Cx}
def Txt.cl{K:Frag}{mg:Str->Ψ}(T:Txt K mg D):∀C,Fam D C->Cls K C:=by
 rintro C (rfl|rfl|rfl|rfl|rfl|rfl)
 .exact T.abH
 .exact T.abk
 .exact T.Zz
 .exact T.ab8
 .exact T.ace
 .exact T.g_
def Txt.CQ{K:Frag}{mg:Str->Ψ}(T:Txt K mg D):∀C,Fam D C->cg K C "leads":=by
 rintro C (rfl|rfl|rfl|rfl|rfl|rfl)
 .exact T.M6
 .exact T.Lz
 .exact T.Im
 .exact T.M9
 .exact T.LK
 .exact T.MN
def Txt.HN{K:Frag}{mg:Str->Ψ}(T:Txt K mg D):∀C,Fam D C->cg K C "name":=by
 rintro C (rfl|rfl|rfl|rfl|rfl|rfl)
 .exact T.Oq
 .exact T.Ra
 .exact T.Mi
 .exact T.Ox
 .exact T.Q0
 .exact T.Q_
def Txt.Bl{K:Frag}{mg:Str->Ψ}(T:Txt K mg D):∀C,Fam D C->cg K C "numbers":=by
 rintro C (rfl|rfl|rfl|rfl|rfl|rfl)
 .exact T.GK
 .exact T.Gy
 .exact T.Es
 .exact T.G_
 .exact T.Gv
 .exact T.G7
def Txt.JB{K:Frag}{mg:Str->Ψ}(T:Txt K mg D):∀C,Fam D C->cg K C "offered":=by
 rintro C (rfl|rfl|rfl|rfl|rfl|rfl)
 .exact T.G8
 .exact T.Hi
 .exact T.Fz
 .exact T.G5
 .exact T.Hh
 .exact T.GP
def Txt.abG{K:Frag}{mg:Str->Ψ}(T:Txt K mg D):∀C,Fam D C->cg K C "pay":=by
 rintro C (rfl|rfl|rfl|rfl|rfl|rfl)
 .exact T.T6
 .exact T.S6
 .exact T.Qd
 .exact T.Tq
 .exact T.Vz
 .exact T.U6
def Txt.ab2{K:Frag}{mg:Str->Ψ}(T:Txt K mg D):∀C,Fam D C->cg K C "share":=by
 rintro C (rfl|rfl|rfl|rfl|rfl|rfl)
 .exact T.MK
 .exact T.Ly
 .exact T.JD
 .exact T.Lk
 .exact T.Mf
 .exact T.MJ
def dz(D:Adr)(C:Addr):Prop:=C=D.Door\/C=D.Sure\/C=D.Mixed\/C=D.Toss\/C=D.Even
def dz.fam{C:Addr}(h:dz D C):Fam D C:=by
 unfold dz at h;unfold Fam;rcases h with h|h|h|h|h<;>simp[h]
def Txt.Qj{K:Frag}{mg:Str->Ψ}(T:Txt K mg D):∀C,dz D C->Meth K C "ways" D.Door_ways:=by
 rintro C (rfl|rfl|rfl|rfl|rfl)
 .exact T.Oz
 .exact T.Qh
 .exact T.Mh
 .exact T.QF
 .exact T.QK
class Bs where
 P:Program
 w:World
 K:Frag
 mg:Str->Ψ
 base:Heap
section
open Bs (P w K mg base)
abbrev gT[Bs](k:Nat)(x:Str)(ps:Θ)(S:ST):Prop:=OkT P w K mg base k x ps S
abbrev gI[Bs](k:Nat)(a:Addr)(ps:Θ)(S:ST):Prop:=OkI P w K mg base CX0 k a ps (spT K S)
abbrev FT[Bs](k:Nat)(f:Addr)(fd:FuncData)(ps:Θ)(S:ST):Prop:=d9 P w K mg base CX0 k f fd ps (spT K S)
abbrev Fu[Bs](n:Str)(s:Stmt)(f:Addr)(fd:FuncData):Prop:=Fun K n n s f fd
abbrev Tx[Bs](D:Adr):Prop:=Txt K mg D
variable[Bs]{D:Adr}{f:Addr}{fd:FuncData}
def ya{k:Nat}{n:Str}{st:Stmt}{ps:Θ}{sp:Sp}(h:cL K mg n st ps)(g:∀{f fd},Fun K n n st f fd->d9 P w K mg base CX0 k f fd ps sp):OkF P w K mg base k n ps sp:=h.ok λ_ _=>g
def yf{X:CXT}{k:Nat}{n m:Str}{st:Stmt}{ps:Θ}{f:Addr}{sp:Sp}(h:vP K n m st ps f)(g:∀{fd},Fun K n m st f fd->d9 P w K mg base X k f fd ps sp):OkI P w K mg base X k f ps sp:=h.ok λ_=>g
def yi{k:Nat}{n:Str}{st:Stmt}{ps:Θ}{sp:Sp}(h:cL K mg n st ps)(g:∀{f fd},Fun K n n st f fd->d9 P w K mg base (CXO P w) k f fd ps sp):OkX P w K mg base k n ps sp:=h.okX λ_ _=>g
abbrev frT(f:Ξ):T:=.tup [.int f.1,.int f.2]
def isW:T->xS
 |.int _=>some true
 |.bl _=>some false
 |.non=>some false
 |.str _=>some false
 |.tup _=>some false
 |.lst _=>some false
 |_=>none
def jE:ST:=λts q=>∃t b,ts=[t]/\isW t=some b/\q (.fz (.bl b))
def Vn(T:Tx D):gT 1 iz gj jE:=ya T.Xi λF=>by
 refine F.okT U8 (λ_ _=>bH (bO (Ey (nu .int wn T.cH T.abS boot_int) (Ew (adk (nu .bool wn T.cH T.Pn boot_bool)))))) ?_;rintro _ R ⟨t,b,rfl,h,q⟩;cases t<;>cases h<;>exact q
def m9:ST:=λts q=>∃a b,ts=[.int a,.int b]/\q (.fz (.int (Int.gcd a b)))
def Wn(T:Tx D):gT 1 lF cW m9:=ya T.aaD λF=>by
 refine F.okT W7 (λhr _=>bF (bQ 2 (bM K4 T.Ve boot_abs (bx wn bA)))
  (bF (bQ 3 (bM K4 T.Ve boot_abs (bx we bA)))
  (bF (IK (b_ (lN hr.units) wP bC)
  (bF (bQ 4 (bL cB wa wP))
  (bF (bQ 2 wP)
  (bH (bQ 3 wE)))))
  (bH (bO wa))))) ?_
 rintro _ R ⟨a,b,rfl,q⟩;refine⟨λm o=>∃(l r:Nat)(x:OT),o=[.fz (.int a),.fz (.int b),.fz (.int l),.fz (.int r),x]/\Nat.gcd l r=Int.gcd a b/\m=r,⟨_,_,_,_,rfl,rfl,rfl⟩,?_⟩;rintro m _ ⟨l,r,x,rfl,hg,hm⟩;refine sw2 (λh=>?_) λh=>?_
 .have hr:r≠0:=by intro z;subst z;cases h
  refine⟨λo=>∃x,o=[.fz (.int a),.fz (.int b),.fz (.int r),.fz (.int ((l%r:Nat):Int)),x],?_,?_⟩
  .rintro _ ⟨x,rfl⟩;exact⟨l%r,by have:=Nat.mod_lt l (Nat.pos_of_ne_zero hr);lia,r,l%r,x,rfl,(Nat.gcd_comm r (l%r)).trans ((Nat.gcd_rec r l).symm.trans ((Nat.gcd_comm r l).trans hg)),rfl⟩
  .exact⟨by lia,_,by rw[Int.natCast_emod];rfl⟩
 .have hr:r=0:=by
   by_cases z:r=0
   .exact z
   .have:(decide ((r:Int)=0))=false:=Zp wo;rw[show xr true (decide ((r:Int)=0)) = !decide ((r:Int)=0)from rfl,this]at h;cases h
  subst hr;rw[Nat.gcd_zero_right]at hg;rw[<- hg]at q;exact q
structure Low(t b x y:Int):Prop where
 pos:0<y
 gcd:Int.gcd x y=1
 eq:x*b=t*y
 lx:x.natAbs<=t.natAbs
 ly:y.natAbs<=b.natAbs
def KQ{c q:Int}(h:c≠0):Int.fdiv (c*q) c=q:=by
 rw[Int.fdiv_eq_ediv_of_dvd (Int.dvd_mul_right c q),QQ _ h]
def KY{c q:Int}(h:c≠0):q.natAbs<=(c*q).natAbs:=by
 rw[VT];exact Zzx _ wo
def yZ{t b c:Int}(hb:b≠0)(hc:c≠0)(hg:c.natAbs=Int.gcd t b)(hs:0<c*b):Low t b (Int.fdiv t c) (Int.fdiv b c):=by
 have d1:c ∣ t:=Int.natAbs_dvd.mp (by rw[hg];exact Int.gcd_dvd_left t b);have d2:c ∣ b:=Int.natAbs_dvd.mp (by rw[hg];exact JS t b);obtain⟨x,rfl⟩:=d1;obtain⟨y,rfl⟩:=d2;rw[KQ hc,KQ hc];refine⟨?_,?_,?_,KY hc,KY hc⟩
 .rw[<- Int.mul_assoc]at hs;have hp:0<c*c:=by
   rcases Int.lt_or_lt_of_ne hc with z|z
   .exact Int.mul_pos_of_neg_of_neg z z
   .exact XZ z z
  exact Int.pos_of_mul_pos_right hs hp
 .rw[Int.gcd_mul_left]at hg;have hp:0<c.natAbs:=by lia
  exact Nat.eq_of_mul_eq_mul_left hp (by rw[Nat.mul_one];exact hg.symm)
 .rw[Int.mul_left_comm,Int.mul_assoc]
def nW{b:Int}(hb:b≠0):(0:Int)<(Int.gcd a b:Nat):=by
 have:=Zzz a hb;lia
def Ob{i j:Int}(h:i.natAbs<=j.natAbs)(k:Bd j):Bd i:=Y3 h k
theorem acQ{i:Int}(h:Bd i):Bd (-i):=by unfold Bd at *;rwa[Int.natAbs_neg]
def V_{b:Int}(hb:b≠0)(h:Bd b):Bd ((Int.gcd a b:Nat):Int):=Ob (by
 have:=UX wo (Int.gcd_dvd_natAbs_right a b);omega) h
def xX:ST:=λts q=>∃t b,ts=[.int t,.int b]/\b≠0/\Bd b/\∀x y,Low t b x y->q (.fz (frT (x,y)))
def abK(T:Tx D):gT 2 tR oF xX:=ya T.aes λF=>by
 refine F.okT ada (λhr _=>bF (cC (QW.qt (kJ (dZ (cY (bI (Vn T) (bx wn bA)))) (iC (dZ (cY (bI (Vn T) (bx we bA)))))))
  (bH gJ)
  bR)
  (bF (cC (b_ (yY hr.units) we bC)
  (bH gJ)
  bR)
  (bF (bQ 2 (bI (Wn T) (bx wn (bx we bA))))
  (bF (cC (b_ Cg we bC)
  (bH (bQ 2 (En wa)))
  bR)
  (bH (bO (dN (bx (bL iD wn wa) (bx (bL iD we wa) bA))))))))) ?_
 rintro _ R ⟨t,b,rfl,hb,hd,q⟩;refine⟨_,_,rfl,rfl,_,_,rfl,rfl,?_⟩;have g0:=nW (a:=t) hb;have g1:=V_ (a:=t) hb hd;refine swF (Zp hb) ⟨_,_,rfl,swD (λhn=>⟨⟨by omega,acQ g1⟩,⟨by omega,acQ g1⟩,q _ _ (yZ hb (by omega) wo (Int.mul_pos_of_neg_of_neg wo hn))⟩) λhn=>⟨⟨by exact WU g0,g1⟩,⟨by exact WU g0,g1⟩,q _ _ (yZ hb (WU g0) wo (XZ g0 wo))⟩⟩
abbrev frR(r:Rat):T:=.tup [.int r.num,.int r.den]
def kZ{t b x y:Int}(h:Low t b x y)(hb:b≠0):frT (x,y)=frR (Rat.divInt t b):=by
 have hy:=h.pos;have e:Rat.divInt t b=⟨x,y.toNat,by lia,by have:=h.gcd;unfold Int.gcd at this;rw[show y.toNat=y.natAbs by lia];exact this⟩:=by
  rw[Rat.mk_eq_divInt,show((y.toNat:Nat):Int)=y by exact QP (XY hy)];exact(JP hb (WU hy)).mpr h.eq.symm
 rw[e];show T.tup [.int x,.int y]=.tup [.int x,.int (y.toNat:Nat)];rw[show((y.toNat:Nat):Int)=y by exact QP (XY hy)]
def rd(r:Rat):Rat.divInt r.num r.den=r:=Rat.num_divInt_den r
def oM(r:Rat):((r.den:Nat):Int)≠0:=by have:=r.den_pos;lia
def Bq(r:Rat):Prop:=Bd r.num/\Bd (r.den:Nat)
def YB:ST:=λts q=>∃a b:Rat,ts=[frR a,frR b]/\Bq a/\Bq b/\Bd ((a.den:Int)*b.den)/\q (.fz (frR (a+b)))
def DN:ST:=λts q=>∃a b:Rat,ts=[frR a,frR b]/\Bq a/\Bq b/\Bd ((a.den:Int)*b.den)/\q (.fz (frR (a-b)))
def Ub:ST:=λts q=>∃a b:Rat,ts=[frR a,frR b]/\Bq a/\Bq b/\Bd ((a.den:Int)*b.den)/\q (.fz (frR (a*b)))
def Yz:ST:=λts q=>∃a b:Rat,ts=[frR a,frR b]/\b≠0/\Bq a/\Bq b/\Bd ((a.den:Int)*b.num)/\q (.fz (frR (a/b)))
def Ie:ST:=λts q=>∃a b:Rat,ts=[frR a,frR b]/\Bq a/\Bq b/\q (.fz (.bl (decide (a<b))))
def oV{b:Int}(ha:a≠0)(hb:b≠0):a*b≠0:=λz=>(Int.mul_eq_zero.mp z).elim ha hb
def ae6(T:Tx D):gT 3 Rz CZ YB:=ya T.aij λF=>by
 refine F.okT afe (λ_ _=>bH (bO (bI (abK T) (bx (bL cD (bL cR (bJ wn bC) (bJ we bC)) (bL cR (bJ we bC) (bJ wn bC))) (bx (bL cR (bJ wn bC) (bJ we bC)) bA))))) ?_;rintro _ R ⟨a,b,rfl,ha,hb,hd,q⟩;refine⟨⟨ha.1,hb.2⟩,⟨hb.1,ha.2⟩,⟨ha.2,hb.2⟩,_,_,rfl,oV (oM a) (oM b),hd,λx y l=>?_⟩;rwa[kZ l (oV (oM a) (oM b)),<- JJ _ _ (oM a) (oM b),rd,rd]
def abf(T:Tx D):gT 3 wM qp DN:=ya T.aey λF=>by
 refine F.okT abb (λ_ _=>bH (bO (bI (abK T) (bx (bL Qx (bL cR (bJ wn bC) (bJ we bC)) (bL cR (bJ we bC) (bJ wn bC))) (bx (bL cR (bJ wn bC) (bJ we bC)) bA))))) ?_;rintro _ R ⟨a,b,rfl,ha,hb,hd,q⟩;refine⟨⟨ha.1,hb.2⟩,⟨hb.1,ha.2⟩,⟨ha.2,hb.2⟩,_,_,rfl,oV (oM a) (oM b),hd,λx y l=>?_⟩;rwa[kZ l (oV (oM a) (oM b)),<- Rat.divInt_sub_divInt _ _ (oM a) (oM b),rd,rd]
def abZ(T:Tx D):gT 3 Jj v8 Ub:=ya T.aep λF=>by
 refine F.okT adp (λ_ _=>bH (bO (bI (abK T) (bx (bL cR (bJ wn bC) (bJ we bC)) (bx (bL cR (bJ wn bC) (bJ we bC)) bA))))) ?_;rintro _ R ⟨a,b,rfl,ha,hb,hd,q⟩;refine⟨⟨ha.1,hb.1⟩,⟨ha.2,hb.2⟩,_,_,rfl,oV (oM a) (oM b),hd,λx y l=>?_⟩;rwa[kZ l (oV (oM a) (oM b)),<- Rat.divInt_mul_divInt,rd,rd]
def aeQ(T:Tx D):gT 3 Sv B_ Yz:=ya T.aie λF=>by
 refine F.okT aeL (λ_ _=>bH (bO (bI (abK T) (bx (bL cR (bJ wn bC) (bJ we bC)) (bx (bL cR (bJ wn bC) (bJ we bC)) bA))))) ?_;rintro _ R ⟨a,b,rfl,h0,ha,hb,hd,q⟩;have nb:b.num≠0:=λz=>h0 (by rw[<- rd b,z];exact Rat.zero_divInt _);refine⟨⟨ha.1,hb.2⟩,⟨ha.2,hb.1⟩,_,_,rfl,oV (oM a) nb,hd,λx y l=>?_⟩;rwa[kZ l (oV (oM a) nb),<- Rat.divInt_mul_divInt,rd,<- Rat.inv_def,<- Rat.div_def]
def aa8(T:Tx D):gT 1 Ck uf Ie:=ya T.aeR λF=>by
 refine F.okT adz (λ_ _=>bH (bO (qR Cg (bL cR (bJ wn bC) (bJ we bC)) (bL cR (bJ we bC) (bJ wn bC))))) ?_;rintro _ R ⟨a,b,rfl,ha,hb,q⟩;refine⟨⟨ha.1,hb.2⟩,⟨hb.1,ha.2⟩,?_⟩;rw[show decide (a<b)=decide (a.num*(b.den:Int)<b.num*(a.den:Int))from decide_eq_decide.mpr (Rat.lt_iff a b)]at q;exact q
def qY:ST:=λts q=>∃r:Rat,ts=[frR r]/\q (.fz (.bl true))
def S8(T:Tx D):gT 2 oE jq qY:=ya T.W6 λF=>by
 refine F.okT Ul (λhr _=>bF (cC (QW.qt (kJ (dZ (cY (nu .tuple wn T.cH T.Sw boot_tuple))) (iC (b_ (lN hr.units) (bM cI T.dI WJ (bx wn bA)) bC))))
  (bH (bO gW))
  bR)
  (bF (bQ 1 (bJ wn bC))
  (bF (bQ 2 (bJ wn bC))
  (bF (cC (QW.qt (kJ (dZ (cY (bI (Vn T) (bx we bA)))) (iC (dZ (cY (bI (Vn T) (bx wa bA)))))))
  (bH (bO gW))
  bR)
  (bH (bO (Ey (qR agF wa bC) (Ew (qR (yY hr.units) (bI (Wn T) (bx we (bx wa bA))) bC))))))))) ?_
 rintro _ R ⟨r,rfl,q⟩;refine⟨_,_,rfl,rfl,_,_,rfl,rfl,?_⟩;have:=r.den_pos;refine swT (Zs wo) ⟨_,_,rfl,?_⟩;rwa[show Int.gcd r.num r.den=1 from r.reduced]
def an8:xo->Nat
 |[]=>1
 |r::rs=>Nat.lcm r.den (an8 rs)
def jm(n:Nat):xo->Nat
 |[]=>n
 |r::rs=>jm (Nat.lcm n r.den) rs
theorem qI:∀(rs:xo){n:Nat},0<n->0<jm n rs
 |[],_,h=>h
 |r::rs,_,h=>qI rs (Nat.lcm_pos h r.den_pos)
theorem pX:∀(rs:xo){n:Nat},n ∣ jm n rs/\∀r∈rs,r.den ∣ jm n rs
 |[],n=>⟨Nat.dvd_refl n,λ_ z=>(nomatch z)⟩
 |r::rs,n=>by
  obtain⟨a,b⟩:=pX rs (n:=Nat.lcm n r.den);refine⟨Nat.dvd_trans (Nat.dvd_lcm_left ..) a,λx hx=>?_⟩;rcases YU.mp hx with rfl|z
  .exact Nat.dvd_trans (Nat.dvd_lcm_right ..) a
  .exact b x z
theorem Ar:∀(rs:xo){n m:Nat},n ∣ m->(∀r∈rs,r.den ∣ m)->jm n rs ∣ m
 |[],_,_,h,_=>h
 |r::rs,_,_,h,k=>Ar rs (Nat.lcm_dvd h (k r (aO ..))) λx hx=>k x (aJ _ hx)
theorem Iu:∀(as bs:xo)(n:Nat),jm n (as++bs)=jm (jm n as) bs
 |[],_,_=>rfl
 |_::as,bs,_=>Iu as bs _
def tops(B:Nat)(rs:xo):xy:=rs.map λr=>r.num*((B/r.den:Nat):Int)
def VH(h:Bd (n:Int))(l:m<=n):Bd (m:Int):=Ob (by omega) h
def ab1(n d:Nat):(Int.fdiv (n:Int) ((Int.gcd n d:Nat):Int))*d=((Nat.lcm n d:Nat):Int):=by
 rw[show Int.gcd (n:Int) (d:Int)=Nat.gcd n d from rfl,Int.fdiv_eq_ediv_of_dvd (Int.natCast_dvd_natCast.mpr (Nat.gcd_dvd_left n d)),<- Int.natCast_ediv,<- Int.natCast_mul,Nat.lcm,Nat.div_mul_right_comm (Nat.gcd_dvd_left n d)]
def Ir(m n:Nat):Int.fdiv (m:Int) (n:Int)=((m/n:Nat):Int):=by rw[Q3 _ (X9 _)];rfl
def Jv:ST:=λts q=>∃rs:xo,ts=[.lst (rs.map frR)]/\rs.length<=1000/\(∀r∈rs,Bd r.num)/\Bd (jm 1 rs:Nat)/\q (.fz (.tup [.lst ((tops (jm 1 rs) rs).map T.int),.int (jm 1 rs:Nat)]))
def adK(T:Tx D):gT 2 Du ud Jv:=ya T.afJ λF=>by
 refine F.okT adn (λ_ _=>bF (bQ 1 bC)
  (bF (dU (cj wn) (bY (n:=99) 2)
  (bH (bQ 1 (bL cR (bL iD we (bI (Wn T) (bx we (bx (bJ wa bC) bA)))) (bJ wa bC)))))
  (bH (bO (dN (bx (dG (bG H_) YL ["fractions","bottom","?one"] ["one"] (cj wn) (eF (i:=0)) cA (bL cR (bJ wn bC) (bL iD wa (bJ wn bC)))) (bx we bA))))))) ?_
 rintro _ R ⟨rs,rfl,rl,hn,hB,q⟩;refine fL frR rs (λas o=>∃x,o=[.fz (.lst (rs.map frR)),.fz (.int (jm 1 as:Nat)),x]) ⟨_,rfl⟩ ?_ ?_
 .rintro as a bs _ e ⟨x,rfl⟩;have d1:=(pX (a::bs) (n:=jm 1 as)).1;have el:jm 1 rs=jm (jm 1 as) (a::bs):=by rw[e];exact Iu as (a::bs) 1
  have hp:=qI as TH;have hB0:=qI rs TH;have b1:Bd (jm 1 as:Nat):=VH hB (el ▸ UX (el ▸ hB0) d1);have b2:Bd (a.den:Nat):=VH hB (UX hB0 ((pX rs).2 a (e ▸ by simp)));refine⟨_,_,rfl,⟨by have:=nW (a:=(jm 1 as:Nat)) (oM a);exact WU this,V_ (oM a) b2⟩,⟨Ob ?_ b1,b2⟩,.fz (frR a),?_⟩
  .rw[show Int.gcd ((jm 1 as:Nat):Int) (a.den:Int)=Nat.gcd (jm 1 as) a.den from rfl,Ir];exact Nat.div_le_self ..
  .rw[ab1,Iu]
   rfl
 .rintro _ ⟨x,rfl⟩;refine⟨aL (by simpa using rl) wp,comp_map frR (λr=>.int (r.num*((jm 1 rs/r.den:Nat):Int))) rs (λr hr N M hN=>?_) ?_⟩
  .have b2:Bd (r.den:Nat):=VH hB (UX (qI rs TH) ((pX rs).2 r hr));refine⟨⟨oM r,b2⟩,⟨hn r hr,Ob ?_ hB⟩,?_⟩
   .rw[Ir];exact Nat.div_le_self ..
   .rw[Ir];exact hN
  .have:(tops (jm 1 rs) rs).map L2.T.int=rs.map (λr=>.int (r.num*((jm 1 rs/r.den:Nat):Int))):=by unfold tops;rw[WS];rfl
   rw[this]at q;exact q
def Ym(l:zD):Bool:=decide (1<=l.length)&&decide (l.length<=8)&&l.all λc=>decide (97<=c)&&decide (c<=122)
abbrev Wd(n:Str):Prop:=Ym n.cps.toList=true
def Wd.len{n:Str}(h:Wd n):1<=n.length/\n.length<=8:=by
 unfold Wd Ym at h;simp only[JY,decide_eq_true_eq,Array.length_toList]at h;exact h.1
def Ys(c d:Nat):(!decide ((⟨#[d]⟩ : Str).cps.toList<(⟨#[c]⟩ : Str).cps.toList))=decide (c<=d):=by
 have:((⟨#[d]⟩ : Str).cps.toList<(⟨#[c]⟩ : Str).cps.toList)↔d<c:=by
  show[d]<[c]↔d<c;constructor
  .intro h;cases h with
   |rel h=>exact h
   |cons h=>cases h
  .exact λh=>.rel h
 rw[show decide ((⟨#[d]⟩ : Str).cps.toList<(⟨#[c]⟩ : Str).cps.toList)=decide (d<c)from decide_eq_decide.mpr this];by_cases h:c<=d
 .rw[Zs h,Zp (Ts h)];rfl
 .rw[Zp h,Zs (Nat.lt_of_not_le h)];rfl
def uD:ST:=λts q=>∃n:Str,ts=[.str n]/\Wd n/\q (.fz (.bl true))
def WT(T:Tx D):gT 1 pY lK uD:=ya T.aaL λF=>by
 refine F.okT V7 (λ_ _=>bF (cC (QW.qt (kJ (dZ (cY (nu .str wn T.cH T.ajI boot_str))) (iC (dZ (Lg JF JF bC (bM aer T.dI WJ (bx wn bA)) (Ue T.Jb λ_=>.int _))))))
  (bH (bO gW))
  bR)
  (bH (bO (bM (aa4 rfl) T.agk boot_all (bx (dG (bG zy) FN FN ["sign"] (aio wn) (eF (i:=0)) cA (Kg ab5 ab5 lJ wn lJ)) bA))))) ?_
 rintro _ R ⟨n,rfl,hw,q⟩;obtain⟨l1,l8⟩:=hw.len;refine⟨aL l8 wp,swT (Zs wo) (swF (by rw[Zs (show((n.length:Nat):Int)<=8 by lia)];rfl) ⟨by rw[ak];exact aL l8 wp,comp_map (λc=>.str ⟨#[c]⟩) (λc=>.bl (decide (97<=c)&&decide (c<=122))) n.cps.toList (λc _ N M hN=>?_) ⟨n.cps.toList.map λc=>decide (97<=c)&&decide (c<=122),by rw[WS];rfl,?_⟩⟩)⟩
 .have e1:(!decide ((⟨#[c]⟩ : Str).cps.toList<("a":Str).cps.toList))=decide (97<=c):=by rw[show("a":Str)=⟨#[97]⟩from by decide +kernel];exact Ys 97 c
  have e2:(!decide (("z":Str).cps.toList<(⟨#[c]⟩ : Str).cps.toList))=decide (c<=122):=by rw[show("z":Str)=⟨#[122]⟩from by decide +kernel];exact Ys c 122
  refine sw2 (λh=>?_) λh=>?_
  .rw[<- e1,h,<- e2]at hN;exact hN
  .rw[<- e1,h]at hN;exact hN
 .have:((n.cps.toList.map λc=>decide (97<=c)&&decide (c<=122)).all λb=>b)=true:=by
   unfold Wd Ym at hw;rw[JY]at hw;rw[List.all_map];exact hw.2
  rw[<- this]at q;exact q
def tL:ST:=λts q=>∃(n:Str)(r:Rat),ts=[.str n,frR r]/\Wd n/\q (.fz .non)
def Nf(T:Tx D):gT 3 nJ iZ tL:=ya T.Rv λF=>by
 refine F.okT Ln (λ_ _=>bF (cC (dZ (cY (bI (WT T) (bx wn bA))))
  (bH gJ)
  bR)
  (bH (cC (dZ (cY (bI (S8 T) (bx we bA))))
  (bH gJ)
  bR))) ?_
 rintro _ R ⟨n,r,rfl,hw,q⟩;exact⟨_,rfl,hw,_,rfl,q⟩
def lG:ST:=λts q=>∃n:Str,ts=[.str n]/\Wd n/\q (.fz .non)
def Ah(T:Tx D):gT 2 iG eY lG:=ya T.BJ λF=>by
 refine F.okT Ak (λ_ _=>bH (cC (dZ (cY (bI (WT T) (bx wn bA))))
  (bH gJ)
  bR)) ?_
 rintro _ R ⟨n,rfl,hw,q⟩;exact⟨_,rfl,hw,q⟩
def Ch(r:Rat):Prop:=0<=r/\r<=1/\Bd (r.den:Nat)
def Ch.bq(h:Ch r):Bq r:=by
 have h0:=Rat.num_nonneg.mpr h.1;have h1:=(Rat.le_iff r 1).mp h.2.1;exact⟨Ob (by have:r.num*((1:Rat).den:Int)<=(1:Rat).num*(r.den:Int):=h1;simp at this;omega) h.2.2,h.2.2⟩
def bq0:Bq 0:=⟨Nat.two_pow_pos 8000,Nat.one_lt_two_pow wp⟩
def bq1:Bq 1:=⟨Nat.one_lt_two_pow wp,Nat.one_lt_two_pow wp⟩
def oZ:ST:=λts q=>∃r:Rat,ts=[frR r]/\Ch r/\q (.fz .non)
def GX(T:Tx D):gT 3 lq gD oZ:=ya T.Ko λF=>by
 refine F.okT Hg (λ_ _=>bH (cC (QW.qt (kJ (dZ (cY (bI (S8 T) (bx wn bA)))) (kJ (cY (bI (aa8 T) (bx wn (bx (lU T.kE T.i_) bA)))) (iC (cY (bI (aa8 T) (bx (lU T.zT T.sV) (bx wn bA))))))))
  (bH gJ)
  bR)) ?_
 rintro _ R ⟨r,rfl,hc,q⟩;refine⟨_,rfl,r,0,rfl,hc.bq,bq0,?_⟩;rw[Zp (Rat.not_lt.mpr hc.1)];refine⟨1,r,rfl,bq1,hc.bq,?_⟩;rwa[Zp (Rat.not_lt.mpr hc.2.1)]
def CV(rs:xo):Rat:=rs.foldr (· + ·) 0
theorem Vj{B:Nat}(hB:B≠0):∀{rs:xo},(∀r∈rs,r.den ∣ B)->Rat.divInt (tops B rs).sum B=CV rs
 |[],_=>by show Rat.divInt 0 _=0;exact Rat.zero_divInt _
 |r::rs,h=>by
  have ih:=Vj hB (rs:=rs) λx hx=>h x (aJ _ hx);have pf:((B:Nat):Int)≠0:=by lia
  obtain⟨m,hm⟩:=h r (aO ..);show Rat.divInt (r.num*((B/r.den:Nat):Int)+(tops B rs).sum) B=r+CV rs;have e1:r+CV rs=Rat.divInt (r.num*B+(tops B rs).sum*r.den) (r.den*B):=by rw[<- JJ _ _ (oM r) pf,rd,ih]
  rw[e1];refine(JP pf (oV (oM r) pf)).mpr ?_;have:B/r.den=m:=by rw[hm];exact Nat.mul_div_cancel_left _ r.den_pos
  rw[this,hm];simp only[Int.natCast_mul]
  grind
def Ui:ST:=λts q=>∃rs:xo,ts=[.lst (rs.map frR)]/\rs.length<=1000/\(∀r∈rs,Bd r.num)/\Bd (jm 1 rs:Nat)/\q (.fz (frR (CV rs)))
def acR(T:Tx D):gT 3 Iz zm Ui:=ya T.f_total λF=>by
 refine F.okT abV (λ_ _=>bF (bQ 1 (bI (adK T) (bx wn bA)))
  (bH (bO (bI (abK T) (bx (bM (acW rfl) T.agd boot_sum (bx (bJ we bC) bA)) (bx (bJ we bC) bA)))))) ?_
 rintro _ R ⟨rs,rfl,rl,hn,hB,q⟩;have hp:=qI rs TH;have hz:((jm 1 rs:Nat):Int)≠0:=by lia
 refine⟨rs,rfl,rl,hn,hB,_,rfl,_,_,rfl,hz,hB,λx y l=>?_⟩;rwa[kZ l hz,Vj (VV hp) (pX rs).2]
abbrev wyT(p:Str×Rat):T:=.tup [.str p.1,frR p.2]
def zf:ST:=λts q=>∃ps:zS,ts=[.lst (ps.map wyT)]/\ps.length<=1000/\(∀p∈ps,Wd p.1/\Ch p.2)/\Bd (jm 1 (ps.map (·.2)):Nat)/\CV (ps.map (·.2))=1/\q (.fz .non)
def KZ(T:Tx D):gT 4 qw jA zf:=ya T.M8 λF=>by
 refine F.okT JW (λhr _=>bF (dU (cj wn) (eX (n:=2) (bN (bY (n:=99) 1) (bN (bY (n:=99) 2) c7)))
  (bF (mJ (bI (Ah T) (bx we bA)))
  (bH (mJ (bI (GX T) (bx wa bA))))))
  (bH (cC (b_ (lN hr.units) (bI (acR T) (bx (dG (bG nY) rP rP ["pair"] (cj wn) (eF (i:=0)) cA (bJ wn bC)) bA)) (lU T.zT T.sV))
  (bH gJ)
  bR))) ?_
 rintro _ R ⟨ps,rfl,pl,hp,hB,hs,q⟩;refine fL wyT ps (λ_ o=>∃x y,o=[.fz (.lst (ps.map wyT)),x,y]) ⟨_,_,rfl⟩ ?_ ?_
 .rintro as a bs _ e ⟨x,y,rfl⟩;obtain⟨h1,h2⟩:=hp a (e ▸ by simp);exact⟨rfl,_,rfl,h1,_,rfl,h2,_,_,rfl⟩
 .rintro _ ⟨x,y,rfl⟩;refine⟨aL (by simpa using pl) wp,comp_map wyT (λp=>frR p.2) ps (λp _ N M hN=>hN) ⟨ps.map (·.2),by rw[WS];rfl,by simpa using pl,λr hr=>?_,hB,?_⟩⟩
  .obtain⟨p,eK,rfl⟩:=YV.mp hr;exact(hp p eK).2.bq.1
  .rw[hs];exact q
def addW(ws:zS)(p:Str×Rat):zS:=if(ws.any λx=>decide (x.1=p.1))=true then ws.map (λx=>if x.1=p.1 then(x.1,x.2+p.2)else x)else ws++[p]
def j6(ps:zS):zS:=ps.foldl addW []
abbrev wKs(ws:zS):xn:=ws.map λx=>.inr x.1
abbrev wTs(ws:zS):zn:=ws.map λx=>frR x.2
def aiA(ws:zS)(n:Str):Iv (wKs ws) (.inr n)=ws.any λx=>decide (x.1=n):=by
 unfold Iv;rw[UR]
 congr 1
 funext x
 exact decide_eq_decide.mpr ⟨λz=>Sum.inr.inj z,λz=>ZH Sum.inr z⟩
theorem Xb(n:Str):∀ws:zS,oG (wKs ws) (wTs ws) (.inr n)=(ws.find? λx=>decide (x.1=n)).map λx=>frR x.2
 |[]=>rfl
 |x::ws=>by
  show(if(Sum.inr x.1:Key)=.inr n then some (frR x.2)else oG (wKs ws) (wTs ws) (.inr n))=_;by_cases h:x.1=n
  .rw[ZY (ZH Sum.inr h),Zzw (p:=λx:Str×Rat=>decide (x.1=n)) (Zs h)];rfl
  .rw[ZZ λz=>h (Sum.inr.inj z),Zzv (p:=λx:Str×Rat=>decide (x.1=n)) (by show ¬decide (x.1=n)=true;rw[Zp h];decide),Xb n ws]
def Bm(ws:zS)(n:Str):Rat:=((ws.find? λx=>decide (x.1=n)).map (·.2)).getD 0
def aeT(ws:zS)(n:Str):((oG (wKs ws) (wTs ws) (.inr n)).getD (frR 0))=frR (Bm ws n):=by
 rw[Xb];unfold Bm;cases(ws.find? λx=>decide (x.1=n))<;>rfl
def Y7{ws:zS}{n:Str}(nd:(ws.map (·.1)).Nodup){x:Str×Rat}(hx:x∈ws)(e:x.1=n):(ws.find? λy=>decide (y.1=n))=some x:=by
 induction ws with
 |nil=>cases hx
 |cons y ws ih =>
  obtain⟨n1,n2⟩:=List.nodup_cons.mp nd;rcases YU.mp hx with rfl|z
  .exact Zzw (p:=λy:Str×Rat=>decide (y.1=n)) (Zs e)
  .rw[Zzv (p:=λy:Str×Rat=>decide (y.1=n)) (by show ¬decide (y.1=n)=true;rw[Zp λw=>n1 (YV.mpr ⟨x,z,e.trans w.symm⟩)];decide)];exact ih n2 z
def akM(ws:zS)(p:Str×Rat)(nd:(ws.map (·.1)).Nodup):kpK (wKs ws) (.inr p.1)=wKs (addW ws p)/\kpT (wKs ws) (wTs ws) (.inr p.1) (frR (Bm ws p.1+p.2))=wTs (addW ws p):=by
 unfold kpK kpT addW;rw[aiA];by_cases h:(ws.any λx=>decide (x.1=p.1))=true
 .rw[ZY h,ZY h,ZY h];refine⟨by simp only[wKs,WS];refine UT λx _=>?_;show(Sum.inr x.1:Key)=.inr (if x.1=p.1 then(x.1,x.2+p.2)else x).1;split<;>rfl,?_⟩
  clear h
  rw[show wTs (ws.map λx=>if x.1=p.1 then(x.1,x.2+p.2)else x)=ws.map ((λx=>frR x.2) ∘ λx=>if x.1=p.1 then(x.1,x.2+p.2)else x)from WS]
  suffices H:∀(us:zS),(∀x∈us,x.1=p.1->x.2=Bm ws p.1)->List.zipWith (λ(k:Key)x=>if k=.inr p.1 then frR (Bm ws p.1+p.2)else x) (wKs us) (wTs us)=us.map ((λx=>frR x.2) ∘ λx=>if x.1=p.1 then(x.1,x.2+p.2)else x)from H ws λx hx e=>by
   unfold Bm;rw[Y7 nd hx e];rfl
  intro us
  induction us with
  |nil=>intro _;rfl
  |cons x us ih =>
   intro H;show List.zipWith _ (Sum.inr x.1::wKs us) (frR x.2::wTs us)=_;rw[List.zipWith_cons_cons,ih λy hy=>H y (aJ _ hy),List.map_cons]
   congr 1
   by_cases e:x.1=p.1
   .rw[ZY (ZH Sum.inr e)];show _=frR (if x.1=p.1 then(x.1,x.2+p.2)else x).2;rw[ZY e,H x (aO ..) e]
   .rw[ZZ λz=>e (Sum.inr.inj z)];show _=frR (if x.1=p.1 then(x.1,x.2+p.2)else x).2;rw[ZZ e]
 .rw[ZZ h,ZZ h,ZZ h];have n0:Bm ws p.1=0:=by
   unfold Bm;rw[List.find?_eq_none.mpr λx hx z=>h (List.any_eq_true.mpr ⟨x,hx,z⟩)];rfl
  rw[n0,TK];simp only[wKs,wTs,bf];exact⟨rfl,rfl⟩
def afH{ws:zS}{p:Str×Rat}(nd:(ws.map (·.1)).Nodup):((addW ws p).map (·.1)).Nodup:=by
 unfold addW;by_cases h:(ws.any λx=>decide (x.1=p.1))=true
 .rw[ZY h,WS];rw[show ws.map ((λx=>x.1) ∘ λx=>if x.1=p.1 then(x.1,x.2+p.2)else x)=ws.map (·.1)from UT λx _=>by show(if x.1=p.1 then(x.1,x.2+p.2)else x).1=x.1;split<;>rfl];exact nd
 .rw[ZZ h,bf];refine List.nodup_append.mpr ⟨nd,by simp,λa ha b hb z=>h ?_⟩;obtain⟨x,hx,rfl⟩:=YV.mp ha;rw[List.map_singleton,YR]at hb;exact List.any_eq_true.mpr ⟨x,hx,Zs (z.trans hb)⟩
def Z1(as bs:zS):j6 (as++bs)=bs.foldl addW (j6 as):=List.foldl_append ..
def TF(ps:zS):((j6 ps).map (·.1)).Nodup:=by
 suffices H:∀(ps ws:zS),(ws.map (·.1)).Nodup->((ps.foldl addW ws).map (·.1)).Nodup from H ps [] .nil
 intro ps
 induction ps with
 |nil=>exact λ_ h=>h
 |cons p ps ih=>exact λws h=>ih _ (afH h)
def Nx(ps:zS):(j6 ps).length<=ps.length:=by
 suffices H:∀(ps ws:zS),(ps.foldl addW ws).length<=ws.length+ps.length from by simpa[j6]using H ps []
 intro ps
 induction ps with
 |nil=>exact λ_=>aG _
 |cons p ps ih =>
  intro ws;have h1:(addW ws p).length<=ws.length+1:=by
   unfold addW;split
   .rw[ak];exact Xs _
   .rw[aA,List.length_singleton];exact aG _
  have:=ih (addW ws p);rw[List.foldl_cons,List.length_cons];lia
def agC(ps:zS):Prop:=∀as a bs,ps=as++a::bs->Bq (Bm (j6 as) a.1)/\Bq a.2/\Bd (((Bm (j6 as) a.1).den:Int)*a.2.den)
def Bt(ps:zS):zS:=(j6 ps).filter λp=>!decide (p.2=0)
def wI:ST:=λts q=>∃ps:zS,ts=[.lst (ps.map wyT)]/\ps.length<=1000/\agC ps/\q (.l1 ((Bt ps).map wyT))
def I9(T:Tx D):gT 4 pZ jK wI:=ya T.Mp λF=>by
 refine F.okT K8 (λhr _=>bF (iu 1 HX)
  (bF (dU (cj wn) (eX (n:=2) (bN (bY (n:=99) 2) (bN (bY (n:=99) 3) c7)))
  (bH (Ho 1 (vG hr) (bI (ae6 T) (bx (Yd 1 (vG hr) wa (lU T.kE T.i_)) (bx wP bA))) wa)))
  (bH (afp 1 (bG n8) z8 ["pairs","chances","?room","chance"] ["room"] (eF (i:=0)) (Bu (b_ (lN hr.units) (OJ (vG hr) wa wn) (lU T.kE T.i_))) (dN (bx wn (bx (OJ (vG hr) wa wn) bA))))))) ?_
 rintro _ R ⟨ps,rfl,pl,hb,q⟩;refine fL wyT ps (λas o=>∃x y,o=[.fz (.lst (ps.map wyT)),.d1 (wKs (j6 as)) (wTs (j6 as)),x,y]) ⟨_,_,rfl⟩ ?_ ?_
 .rintro as a bs _ e ⟨x,y,rfl⟩;obtain⟨h1,h2,h3⟩:=hb as a bs e;refine⟨rfl,_,rfl,Bm (j6 as) a.1,a.2,ZH (λt=>[t,frR a.2]) (aeT (j6 as) a.1),h1,h2,h3,_,rfl,?_,.fz (.str a.1),.fz (frR a.2),?_⟩
  .have:=Nx as;have:as.length<=ps.length:=by rw[e];simp
   rw[ak];exact Y3 (show _<=1000 by lia) wp
  .obtain⟨k1,k2⟩:=akM (j6 as) a (TF as);rw[show j6 (as++[a])=addW (j6 as) a from by rw[Z1];rfl,<- k1,<- k2]
   rfl
 .rintro _ ⟨x,y,rfl⟩;have jl:=Nx ps;refine⟨by rw[ak];exact aL (show _<=1000 by exact aL jl pl) wp,?_⟩;dsimp only;rw[show(wKs (j6 ps)).map kT=(j6 ps).map λp=>.str p.1 from WS];refine jo (λp=>.str p.1) (λp=>!decide (p.2=0)) wyT (j6 ps) (λp hp N M hN hM=>?_) ?_
  rotate_left
  .exact q
  have ev:oG (wKs (j6 ps)) (wTs (j6 ps)) (.inr p.1)=some (frR p.2):=by rw[Xb,Y7 (TF ps) hp rfl];rfl
  refine⟨_,_,rfl,ev,?_⟩;have ez:(decide (p.2.num=0)&&decide ((p.2.den:Int)=1))=decide (p.2=0):=by
   by_cases z:p.2=0
   .rw[z];decide
   .rw[Zp z,Zp λy=>z (Rat.num_eq_zero.mp y)];rfl
  refine sw2 (λh=>⟨_,_,rfl,ev,hN ?_⟩) λh=>hM ?_
  .rw[<- h];exact ZH (λb=>!b) ez.symm
  .rw[<- h];exact ZH (λb=>!b) ez.symm
abbrev uW:Θ:=["name","pay","leads"]
abbrev drT(C:Addr)(n:Str)(p:Rat)(ws:zS):T:=.ins C uW [.str n,frR p,.lst (ws.map wyT)]
def R5(D:Adr):SI:=λC ks ts as R=>∃(n:Str)(p:Rat),ks=[]/\ts=[]/\Fam D C/\as=[.str n,frR p]/\Wd n/\R uW [.str n,frR p,.lst []]
def O_(T:Tx D):OkI P w K mg base CX0 4 D.Door_init jT (spI K (R5 D)):=yf T.O6 λF=>by
 refine F.okI O5 (λC ks ts as R hP=>by obtain⟨n,p,_,_,_,e,_⟩:=hP;exact e ▸ rfl) wp λai A outer s H E hr nd=>?_;refine⟨_,(bF (mJ (bI (Nf T) (bx we (bx wa bA))))
  (bF (rD (Fm:=Fam D) 0 (λC h=>⟨T.cl C h,T.HN C h⟩) we)
  (bF (rD (Fm:=Fam D) 0 (λC h=>⟨T.cl C h,T.abG C h⟩) wa)
  (bH (rD (Fm:=Fam D) 0 (λC h=>⟨T.cl C h,T.CQ C h⟩) (cF bA)))))),?_⟩
 rintro a dx C _ _ _ R ⟨n,p,rfl,rfl,hC,rfl,hw,q⟩;exact⟨_,_,rfl,hw,⟨hC,by decide⟩,⟨hC,by decide⟩,⟨hC,by decide⟩,_,_,rfl,q⟩
def Uh(D:Adr):Fam D D.Sure:=by simp[Fam]
def ZR(D:Adr):Fam D D.Mixed:=by simp[Fam]
def acK(D:Adr):Fam D D.Toss:=by simp[Fam]
def abl(D:Adr):Fam D D.Even:=by simp[Fam]
def Kl(D:Adr):Fam D D.Hall:=by simp[Fam]
def Yo(D:Adr):SI:=λC ks ts as R=>∃(n m:Str)(p:Rat),ks=[]/\ts=[]/\Fam D C/\as=[.str n,frR p,.str m]/\Wd n/\Wd m/\R uW [.str n,frR p,.lst ([(m,1)].map wyT)]
def RD(T:Tx D):OkI P w K mg base CX0 5 D.Sure_init mO (spI K (Yo D)):=yf T.Sd λF=>by
 refine F.okI Rr (λC ks ts as R hP=>by obtain⟨n,p,_,_,_,_,e,_⟩:=hP;exact e ▸ rfl) wp λai A outer s H E hr nd=>?_;refine⟨_,(bF (Ht 0 T.Dm (O_ T) T.acj (bx we (bx wa bA)))
  (bF (mJ (bI (Ah T) (bx wP bA)))
  (bH (rD (Fm:=Fam D) 0 (λC h=>⟨T.cl C h,T.CQ C h⟩) (cF (bx (dN (bx wP (bx (lU T.zT T.sV) bA))) bA)))))),?_⟩
 rintro a dx C _ _ _ R ⟨n,m,p,rfl,rfl,hC,rfl,hw,hm,q⟩;exact⟨_,_,rfl,rfl,hC,rfl,hw,_,rfl,hm,⟨hC,by decide⟩,_,_,rfl,q⟩
structure Prs(ps:zS):Prop where
 few:ps.length<=1000
 ok:∀p∈ps,Wd p.1/\Ch p.2
 bd:Bd (jm 1 (ps.map (·.2)):Nat)
 one:CV (ps.map (·.2))=1
 jb:agC ps
def Dj(D:Adr):SI:=λC ks ts as R=>∃(n:Str)(p:Rat)(ps:zS),ks=[]/\ts=[]/\Fam D C/\as=[.str n,frR p,.lst (ps.map wyT)]/\Wd n/\Prs ps/\R uW [.str n,frR p,.lst ((Bt ps).map wyT)]
def M_(T:Tx D):OkI P w K mg base CX0 5 D.Mixed_init gR (spI K (Dj D)):=yf T.LQ λF=>by
 refine F.okI Lj (λC ks ts as R hP=>by obtain⟨n,p,_,_,_,_,e,_⟩:=hP;exact e ▸ rfl) wp λai A outer s H E hr nd=>?_;refine⟨_,(bF (Ht 0 T.Dm (O_ T) T.acj (bx we (bx wa bA)))
  (bF (mJ (bI (KZ T) (bx wP bA)))
  (bH (rD (Fm:=Fam D) 0 (λC h=>⟨T.cl C h,T.CQ C h⟩) (bI (I9 T) (bx wP bA)))))),?_⟩
 rintro a dx C _ _ _ R ⟨n,p,ps,rfl,rfl,hC,rfl,hw,h,q⟩;exact⟨_,_,rfl,rfl,hC,rfl,hw,_,rfl,h.few,h.ok,h.bd,h.one,_,rfl,h.few,h.jb,⟨hC,by decide⟩,_,_,rfl,q⟩
def YH(D:Adr):SI:=λC ks ts as R=>∃(n x y:Str)(p c:Rat),ks=[]/\ts=[]/\Fam D C/\as=[.str n,frR p,frR c,.str x,.str y]/\Wd n/\Ch c/\Prs [(x,c),(y,1-c)]/\R uW [.str n,frR p,.lst ((Bt [(x,c),(y,1-c)]).map wyT)]
def Ri(T:Tx D):OkI P w K mg base CX0 6 D.Toss_init mq (spI K (YH D)):=yf T.Pu λF=>by
 refine F.okI Rt (λC ks ts as R hP=>by obtain⟨n,_,_,p,_,_,_,_,e,_⟩:=hP;exact e ▸ rfl) wp λai A outer s H E hr nd=>?_;refine⟨_,(bF (mJ (bI (Nf T) (bx we (bx wa bA))))
  (bF (mJ (bI (GX T) (bx wP bA)))
  (bH (Ht 0 T.z6 (M_ T) T.Sg (bx we (bx wa (bx (cF (bx (dN (bx wE (bx wP bA))) (bx (dN (bx (qv 5) (bx (bI (abf T) (bx (lU T.zT T.sV) (bx wP bA))) bA))) bA))) bA))))))),?_⟩
 rintro a dx C _ _ _ R ⟨n,x,y,p,c,rfl,rfl,hC,rfl,hw,hc,h,q⟩;refine⟨_,_,rfl,hw,_,rfl,hc,1,c,rfl,bq1,hc.bq,?_,n,p,_,rfl,rfl,hC,rfl,hw,h,_,_,rfl,q⟩;rw[show(((1:Rat).den:Nat):Int)*(c.den:Int)=(c.den:Int)from TZ _];exact hc.2.2
def even(bt:Θ):zS:=bt.map λr=>(r,mkRat 1 bt.length)
def WW(h:0<n):frR (mkRat 1 n)=.tup [.int 1,.int (n:Nat)]:=by
 have:mkRat 1 n=⟨1,n,by exact VV h,by show Nat.Coprime 1 n;exact Nat.coprime_one_left n⟩:=by
  rw[Rat.mk_eq_divInt];rfl
 rw[this]
def XS(D:Adr):SI:=λC ks ts as R=>∃(n:Str)(p:Rat)(bt:Θ),ks=[]/\ts=[]/\Fam D C/\as=[.str n,frR p,.lst (bt.map T.str)]/\Wd n/\Prs (even bt)/\R uW [.str n,frR p,.lst ((Bt (even bt)).map wyT)]
def RM(T:Tx D):OkI P w K mg base CX0 6 D.Even_init mj (spI K (XS D)):=yf T.Rh λ{fd}F=>by
 refine F.okI Sx (λC ks ts as R hP=>by obtain⟨n,p,_,_,_,_,e,_⟩:=hP;exact e ▸ rfl) wp λai A outer s H E hr nd=>?_;refine⟨_,(bH (Ht 0 T.z6 (M_ T) T.Sg (bx we (bx wa (bx (dG (bG rF) wY wY ["room"] (cj wP) (eF (i:=0)) cA (dN (bx wn (bx (dN (bx bC (bx (bM cI T.dI WJ (bx wE bA)) bA))) bA)))) bA))))),?_⟩;rintro a dx C _ _ _ R ⟨n,p,bt,rfl,rfl,hC,rfl,hw,h,q⟩;have hl:bt.length<=1000:=by have:=h.few;rwa[even,ak]at this
 refine⟨by rw[ak];exact aL hl wp,comp_map L2.T.str (λr=>wyT (r,mkRat 1 bt.length)) bt (λr hr N M hN=>?_) ⟨n,p,even bt,rfl,rfl,hC,?_,hw,h,_,_,rfl,q⟩⟩
 .rw[show wyT (r,mkRat 1 bt.length)=.tup [.str r,frR (mkRat 1 bt.length)]from rfl,WW (List.length_pos_of_mem hr),<- ak (f:=L2.T.str)]at hN;exact hN
 .unfold even;rw[WS]
  rfl
def Cp(D:Adr):ST:=λts q=>∃(C:Addr)(n:Str)(p:Rat)(ws:zS),ts=[drT C n p ws]/\Fam D C/\q (.l1 (ws.map wyT))
def PK(T:Tx D):gI 1 D.Door_ways lY (Cp D):=yf T.Rb λF=>by
 refine F.okT Rn (λ_ _=>bH (bO (lQ zA T.qH boot_list (bx (Al (Fm:=Fam D) (λC h=>⟨T.cl C h,T.CQ C h⟩) wn) bA)))) ?_;rintro _ R ⟨C,n,p,ws,rfl,hC,q⟩;exact⟨hC,_,rfl,q⟩
structure bV where
 name:Str
 pay:Rat
 ways:zh
abbrev xN:=Option bV
abbrev xf:=List xN
abbrev zi:=List (List bV)
abbrev nwT(p:Nat×Rat):T:=.tup [.int (p.1:Nat),frR p.2]
abbrev ofT(o:bV):T:=.tup [.str o.name,frR o.pay,.lst (o.ways.map nwT)]
abbrev jg:Θ:=["share","numbers","offered"]
abbrev nmK(ns:Θ):xn:=ns.map Sum.inr
abbrev nmT(ns:Θ):zn:=(List.range ns.length).map λk:Nat=>.int k
abbrev hlT(D:Adr)(s:Rat)(ns:Θ)(off:zi):T:=.ins D.Hall jg [frR s,.dct (nmK ns) (nmT ns),.lst (off.map λds=>.lst (ds.map ofT))]
def yI:ST:=λts q=>∃r:Rat,ts=[frR r]/\0<=r/\r<1/\Bq r/\q (.fz .non)
def K1(T:Tx D):gT 3 qj ju yI:=ya T.Mw λF=>by
 refine F.okT Ih (λ_ _=>bH (cC (QW.qt (kJ (dZ (cY (bI (S8 T) (bx wn bA)))) (kJ (cY (bI (aa8 T) (bx wn (bx (lU T.kE T.i_) bA)))) (iC (dZ (cY (bI (aa8 T) (bx wn (bx (lU T.zT T.sV) bA)))))))))
  (bH gJ)
  bR)) ?_
 rintro _ R ⟨r,rfl,h0,h1,hb,q⟩;refine⟨_,rfl,r,0,rfl,hb,bq0,?_⟩;rw[Zp (Rat.not_lt.mpr h0)];refine⟨r,1,rfl,hb,bq1,?_⟩;rwa[Zs h1]
def adC(ns:Θ)(n:Str)(h:n∉ns):Iv (nmK ns) (.inr n)=false:=by
 unfold Iv;rw[UR];exact List.any_eq_false.mpr λx hx z=>h ((Sum.inr.inj (of_decide_eq_true z)) ▸ hx)
theorem Ws{α:Type}(n:Str):∀(ns:Θ)(ts:List α),n∉ns->oG (nmK ns) ts (.inr n)=none
 |[],_,_=>rfl
 |_::_,[],_=>rfl
 |m::ns,t::ts,h=>by
  show(if(Sum.inr m:Key)=.inr n then some t else oG (nmK ns) ts (.inr n))=none;rw[ZZ λz=>h (by rw[Sum.inr.inj z];exact aO ..)];exact Ws n ns ts λz=>h (aJ _ z)
theorem Zd{α:Type}{n:Str} : ∀{ns:Θ}{ts:List α}{k:Nat}{t:α},ns.Nodup->ns[k]?=some n->ts[k]?=some t->oG (nmK ns) ts (.inr n)=some t
 |[],_,_,_,_,e,_=>by cases e
 |m::ns,[],_,_,_,_,e=>by cases e
 |m::ns,u::ts,k,t,nd,e1,e2=>by
  obtain⟨n1,n2⟩:=List.nodup_cons.mp nd;show(if(Sum.inr m:Key)=.inr n then some u else oG (nmK ns) ts (.inr n))=some t;cases k with
  |zero=>cases e1;cases e2;exact ZY rfl
  |succ k =>
   have gE:ns[k]?=some n:=by simpa using e1
   rw[ZZ λ(z:(Sum.inr m:Key)=.inr n)=>n1 (by rw[Sum.inr.inj z];exact aC gE)];exact Zd n2 gE (by simpa using e2)
def ajd(ns:Θ)(n:Str)(h:n∉ns):kpK (nmK ns) (.inr n)=nmK (ns++[n])/\kpT (nmK ns) (nmT ns) (.inr n) (.int (ns.length:Nat))=nmT (ns++[n]):=by
 unfold kpK kpT;rw[adC ns n h];refine⟨by rw[ZZ wp];simp[nmK],?_⟩;rw[ZZ wp];simp only[nmT,aA,List.length_singleton,List.range_succ,bf,List.map_singleton]
abbrev rmT(p:Str×zn):T:=.tup [.str p.1,.lst p.2]
def zY:ST:=λts q=>∃fR:List (Str×zn),ts=[.lst (fR.map rmT)]/\fR.length<=1000/\(∀p∈fR,Wd p.1)/\(fR.map (·.1)).Nodup/\q (.d1 (nmK (fR.map (·.1))) (nmT (fR.map (·.1))))
def MP(T:Tx D):gT 2 rQ kh zY:=ya T.Ss λF=>by
 refine F.okT Ng (λhr _=>bF (iu 1 HX)
  (bF (dU (cj wn) (bY (n:=99) 2)
  (bF (bQ 3 (bJ wa bC))
  (bF (cC (QW.qt (kJ (dZ (cY (bI (WT T) (bx wP bA)))) (iC (KC 1 (aaY (vG hr) wP we)))))
  (bH gJ)
  bR)
  (bH (Ho 1 (vG hr) (Py 1 (bM Yh T.dI WJ (bx we bA))) wP)))))
  (bH (ji 1)))) ?_
 rintro _ R ⟨fR,rfl,rl,hw,nd,q⟩;refine fL rmT fR (λas o=>∃x y,o=[.fz (.lst (fR.map rmT)),.d1 (nmK (as.map (·.1))) (nmT (as.map (·.1))),x,y]) ⟨_,_,rfl⟩ ?_ ?_
 .rintro as a bs _ e ⟨x,y,rfl⟩;have na:a.1∉as.map (·.1):=by
   rw[e,bf,List.map_cons]at nd;exact λz=>(List.nodup_append.mp nd).2.2 a.1 z a.1 (aO ..) rfl
  have al:as.length<=fR.length:=by rw[e];simp
  refine⟨_,rfl,hw a (e ▸ by simp),_,rfl,?_⟩;rw[Ws a.1 _ _ na];refine⟨trivial,_,rfl,by rw[ak,ak];exact Y3 (show _<=1000 by exact aL al rl) wp,.fz (rmT a),.fz (.str a.1),?_⟩;obtain⟨k1,k2⟩:=ajd (as.map (·.1)) a.1 na;rw[bf,List.map_singleton,<- k1,<- k2];simp only[ak]
  rfl
 .rintro _ ⟨x,y,rfl⟩;exact q
structure NWk(ns:Θ)(us:zh):Prop where
 few:us.length<=1000
 lt:∀p∈us,p.1<ns.length
abbrev Tc(ns:Θ)(us:zh):zS:=us.map λp=>(ns.getD p.1 ⟨#[]⟩,p.2)
def tY(D:Adr):ST:=λts q=>∃(C:Addr)(n:Str)(p:Rat)(ns:Θ)(us:zh),ts=[drT C n p (Tc ns us),.dct (nmK ns) (nmT ns)]/\dz D C/\ns.Nodup/\NWk ns us/\q (.l1 (us.map nwT))
def Fd(T:Tx D):gT 2 nq g8 (tY D):=ya T.G4 λF=>by
 refine F.okT Ez (λhr _=>bF (iu 2 (cF bA))
  (bF (dU (cj (QE.any λC(hC:dz D C)=>pW wn (T.cl C hC.fam) (T.Qj C hC) (PK T) (KS:=uW))) (eX (n:=2) (bN (bY (n:=99) 3) (bN (bY (n:=99) 4) c7)))
  (bF (cC (aaB (vG hr) wP we)
  (bH gJ)
  bR)
  (bH (rR 2 (dN (bx (OJ (vG hr) we wP) (bx wE bA)))))))
  (bH (ji 2)))) ?_
 rintro _ R ⟨C,n,p,ns,us,rfl,hC,nd,hu,q⟩;refine⟨C,hC,⟨rfl,rfl⟩,C,n,p,_,rfl,hC.fam,?_⟩;show vH _ _ _ (List.map wyT (Tc ns us)) _;rw[show(Tc ns us).map wyT=us.map λp=>wyT (ns.getD p.1 ⟨#[]⟩,p.2)from WS];refine fL (λp=>wyT (ns.getD p.1 ⟨#[]⟩,p.2)) us (λas o=>∃x y,o=[.fz (drT C n p (Tc ns us)),.fz (.dct (nmK ns) (nmT ns)),.l1 (as.map nwT),x,y]) ⟨_,_,rfl⟩ ?_ ?_
 .rintro as a bs _ e ⟨x,y,rfl⟩;have lt:=hu.lt a (e ▸ by simp);have al:as.length<us.length:=by rw[e];simp
  have few:=hu.few;have en:ns[a.1]?=some (ns.getD a.1 ⟨#[]⟩):=by rw[au,aj lt];rfl
  have ev:oG (nmK ns) (nmT ns) (.inr (ns.getD a.1 ⟨#[]⟩))=some (.int (a.1:Nat)):=Zd nd en (by rw[aq,VX lt];rfl);refine⟨rfl,_,rfl,?_⟩;rw[ev];refine⟨_,_,rfl,ev,by rw[ak];exact Y3 (show _<=1000 by exact aL (Y2 al) few) wp,.fz (.str (ns.getD a.1 ⟨#[]⟩)),.fz (frR a.2),?_⟩;rw[bf]
  rfl
 .rintro _ ⟨x,y,rfl⟩;exact q
structure Made where
 cls:Addr
 of:bV
abbrev xI:=List (List Made)
abbrev mdT(ns:Θ)(m:Made):T:=drT m.cls m.of.name m.of.pay (Tc ns m.of.ways)
structure Mds(D:Adr)(ns:Θ)(ds:List Made):Prop where
 few:ds.length<=1000
 cls:∀m∈ds,dz D m.cls
 ways:∀m∈ds,NWk ns m.of.ways
 nd:(ds.map λm=>m.of.name).Nodup
def ad6(ns:Θ)(n:Str)(h:n∉ns):kpK (nmK ns) (.inr n)=nmK (ns++[n])/\kpT (nmK ns) (ns.map λ_=>L2.T.bl true) (.inr n) (.bl true)=(ns++[n]).map λ_=>L2.T.bl true:=by
 unfold kpK kpT;rw[adC ns n h];refine⟨by rw[ZZ wp];simp[nmK],?_⟩;rw[ZZ wp];simp
def BP(D:Adr):ST:=λts q=>∃(ns:Θ)(ds:List Made),ts=[.lst (ds.map (mdT ns)),.dct (nmK ns) (nmT ns)]/\ns.Nodup/\Mds D ns ds/\q (.l1 (ds.map λm=>ofT m.of))
def RK(T:Tx D):gT 3 uN lW (BP D):=ya T.TV λF=>by
 refine F.okT Qe (λhr _=>bF (iu 2 HX)
  (bF (iu 3 (cF bA))
  (bF (dU (cj wn) (bY (n:=99) 4)
  (bF (cC (KC 2 (aaY (vG hr) (Al (Fm:=Fam D) (λC h=>⟨T.cl C h,T.HN C h⟩) wE) wa))
  (bH gJ)
  bR)
  (bF (Ho 2 (vG hr) gW (Al (Fm:=Fam D) (λC h=>⟨T.cl C h,T.HN C h⟩) wE))
  (bH (rR 3 (dN (bx (Al (Fm:=Fam D) (λC h=>⟨T.cl C h,T.HN C h⟩) wE) (bx (Al (Fm:=Fam D) (λC h=>⟨T.cl C h,T.abG C h⟩) wE) (bx (bI (Fd T) (bx wE (bx we bA))) bA)))))))))
  (bH (ji 3))))) ?_
 rintro _ R ⟨ns,ds,rfl,nd,hd,q⟩;refine fL (mdT ns) ds (λas o=>∃x,o=[.fz (.lst (ds.map (mdT ns))),.fz (.dct (nmK ns) (nmT ns)),.d1 (nmK (as.map λm=>m.of.name)) ((as.map λm=>m.of.name).map λ_=>.bl true),.l1 (as.map λm=>ofT m.of),x]) ⟨_,rfl⟩ ?_ ?_
 .rintro as a bs _ e ⟨x,rfl⟩;have na:a.of.name∉as.map λm=>m.of.name:=by
   have nd:=hd.nd;rw[e,bf,List.map_cons]at nd;exact λz=>(List.nodup_append.mp nd).2.2 _ z _ (aO ..) rfl
  have al:as.length<ds.length:=by rw[e];simp
  have few:=hd.few;have ma:a∈ds:=e ▸ by simp
  have hc:=hd.cls a ma;refine⟨hc.fam,_,rfl,_,rfl,?_⟩;rw[Ws _ _ _ na];refine⟨hc.fam,_,rfl,_,rfl,by rw[ak,ak];exact Y3 (show _<=1000 by exact aL (Y2 al) few) wp,hc.fam,_,rfl,hc.fam,_,rfl,_,_,_,ns,a.of.ways,rfl,hc,nd,hd.ways a ma,by rw[ak];exact Y3 (show _<=1000 by exact aL (Y2 al) few) wp,.fz (mdT ns a),?_⟩;obtain⟨k1,k2⟩:=ad6 (as.map λm=>m.of.name) a.of.name na;rw[show(as++[a]).map (λm=>m.of.name)=as.map (λm=>m.of.name)++[a.of.name]from bf,<- k1,<- k2,bf]
  rfl
 .rintro _ ⟨x,rfl⟩;exact q
structure agq(D:Adr)(ns:Θ)(ae:xI):Prop where
 len:ae.length=ns.length
 few:ns.length<=1000
 wd:∀n∈ns,Wd n
 nd:ns.Nodup
 mds:∀ds∈ae,Mds D ns ds
abbrev Ay(ns:Θ)(ae:xI):zn:=(ns.zip ae).map λp=>rmT (p.1,p.2.map (mdT ns))
abbrev offs(ae:xI):zi:=ae.map λds=>ds.map λm=>m.of
def YQ(D:Adr):SI:=λC ks ts as R=>∃(s:Rat)(ns:Θ)(ae:xI),C=D.Hall/\ks=[]/\ts=[]/\as=[frR s,.lst (Ay ns ae)]/\0<=s/\s<1/\Bq s/\agq D ns ae/\R jg [frR s,.dct (nmK ns) (nmT ns),.lst ((offs ae).map λds=>.lst (ds.map ofT))]
def PL(T:Tx D):OkI P w K mg base CX0 4 D.Hall_init mX (spI K (YQ D)):=yf T.Sy λF=>by
 refine F.okI Ol (λC ks ts as R hP=>by obtain⟨n,p,_,_,_,_,e,_⟩:=hP;exact e ▸ rfl) wp λai A outer s H E hr nd=>?_;refine⟨_,(bF (mJ (bI (K1 T) (bx we bA)))
  (bF (rD (Fm:=Fam D) 0 (λC h=>⟨T.cl C h,T.ab2 C h⟩) we)
  (bF (rD (Fm:=Fam D) 0 (λC h=>⟨T.cl C h,T.Bl C h⟩) (bI (MP T) (bx wa bA)))
  (bH (rD (Fm:=Fam D) 0 (λC h=>⟨T.cl C h,T.JB C h⟩) (dG (bG qZ) yU yU ["room"] (cj wa) (eF (i:=0)) cA (bI (RK T) (bx (bJ wn bC) (bx (aew (Fm:=Fam D) 1 (λC h=>⟨T.cl C h,T.Bl C h⟩)) bA))))))))),?_⟩
 rintro a dx C _ _ _ R ⟨s,ns,ae,rfl,rfl,rfl,rfl,s0,s1,sb,h,q⟩;have z1:(ns.zip ae).map (·.1)=ns:=List.map_fst_zip (by have:=h.len;exact WG (Eq.symm this));have z2:(ns.zip ae).map (·.2)=ae:=List.map_snd_zip (by have:=h.len;exact WG this);have zl:(ns.zip ae).length=ns.length:=by rw[W1,h.len,VU]
 have hf:=Kl D;have few:=h.few;refine⟨_,rfl,s0,s1,sb,⟨hf,by decide⟩,(ns.zip ae).map λp=>(p.1,p.2.map (mdT ns)),by rw[WS];rfl,by rw[ak,zl];exact few,λp hp=>?_,?_,⟨hf,by decide⟩,?_⟩
 .obtain⟨x,hx,rfl⟩:=YV.mp hp;exact h.wd x.1 (z1 ▸ YV.mpr ⟨x,hx,rfl⟩)
 .rw[WS];exact z1.symm ▸ h.nd
 .rw[show((ns.zip ae).map λp=>(p.1,p.2.map (mdT ns))).map (·.1)=ns from List.map_map.trans z1];refine⟨by rw[ak,zl];exact aL few wp,comp_map (λp=>rmT (p.1,p.2.map (mdT ns))) (λp=>.lst (p.2.map λm=>ofT m.of)) (ns.zip ae) (λp hp N M hN=>?_) ⟨⟨hf,by decide⟩,_,_,rfl,?_⟩⟩
  .exact⟨hf,_,rfl,ns,p.2,rfl,h.nd,h.mds p.2 (z2 ▸ YV.mpr ⟨p,hp,rfl⟩),hN⟩
  .have:(ns.zip ae).map (λp=>L2.T.lst (p.2.map λm=>ofT m.of))=(offs ae).map λds=>.lst (ds.map ofT):=by
    rw[show(offs ae).map (λds=>L2.T.lst (ds.map ofT))=ae.map λds=>.lst (ds.map λm=>ofT m.of)from by simp[offs,WS,Function.comp_def]]
    conv=>rhs;rw[<- z2,WS]
    rfl
   rw[<- this]at q;exact q
structure Fb(ns:Θ)(off:zi):Prop where
 len:off.length=ns.length
 few:ns.length<=1000
 fews:∀ds∈off,ds.length<=1000
def iJ(D:Adr):ST:=λts q=>∃(s:Rat)(ns:Θ)(off:zi),ts=[hlT D s ns off]/\q (.fz (.int (ns.length:Nat)))
def QZ(T:Tx D):gI 1 D.Hall_size fj (iJ D):=yf T.Qk λ{fd}F=>by
 refine F.okT Oo (λ_ _=>bH (bO (bM Yh T.dI WJ (bx (Al (Fm:=Fam D) (λC h=>⟨T.cl C h,T.Bl C h⟩) wn) bA)))) ?_;rintro _ R ⟨s,ns,off,rfl,q⟩;refine⟨Kl D,_,rfl,?_⟩;rw[<- ak (f:=(Sum.inr:Str->Key))]at q;exact q
def tG(D:Adr):ST:=λts q=>∃(s:Rat)(ns:Θ)(off:zi)(k:Nat),ts=[hlT D s ns off,.int k]/\k<ns.length/\q (.fz .non)
def Li(T:Tx D):gI 2 D.Hall_check_room dh (tG D):=yf T.p8 λF=>by
 refine F.okT pQ (λ_ _=>bH (cC (QW.qt (kJ (dZ (cY (bI (Vn T) (bx we bA)))) (iC (dZ (Lg JF Cg bC we (pW wn T.g_ T.jP (QZ T) (KS:=jg)))))))
  (bH gJ)
  bR)) ?_
 rintro _ R ⟨s,ns,off,k,rfl,hk,q⟩;refine⟨_,_,rfl,rfl,⟨rfl,rfl⟩,_,_,_,rfl,?_⟩;show sw (!decide ((k:Int)<(ns.length:Nat))) _ _;rwa[Zs (show(k:Int)<(ns.length:Nat)by lia)]
def zE(D:Adr):ST:=λts q=>∃(s:Rat)(ns:Θ)(off:zi)(k:Nat)(ds:List bV),ts=[hlT D s ns off,.int k]/\Fb ns off/\off[k]?=some ds/\q (.l1 (ds.map ofT))
def dB{l:List α}{h:α->T}{a:α}(e:l[k]?=some a):ixT (l.map h) (k:Nat)=some (h a):=by
 show nth (l.map h) k=_;rw[sX,aq,e];rfl
def aae(T:Tx D):gI 3 D.Hall_offers gA (zE D):=yf T.Ij λF=>by
 refine F.okT J3 (λ_ _=>bF (mJ (DQ wn T.g_ T.lD (Li T) (bx we bA) (KS:=jg)))
  (bH (bO (dG (bG nG) sJ sJ ["name","pay","numbered"] (cj (bJ (Al (Fm:=Fam D) (λC h=>⟨T.cl C h,T.JB C h⟩) wn) we)) (eX (n:=3) (bN (eF (i:=0)) (bN (eF (i:=1)) (bN (eF (i:=2)) c7)))) cA (dN (bx wn (bx we (bx (lQ zA T.qH boot_list (bx wa bA)) bA)))))))) ?_
 rintro _ R ⟨s,ns,off,k,ds,rfl,h,e,q⟩;have lk:k<ns.length:=by rw[<- h.len];exact(ao.mp e).1
 refine⟨⟨rfl,rfl⟩,s,ns,off,k,rfl,lk,Kl D,_,rfl,.lst (ds.map ofT),dB (h:=λds=>L2.T.lst (ds.map ofT)) e,by rw[ak];exact aL (h.fews ds (aC e)) wp,comp_map ofT ofT ds (λo _ N M hN=>⟨rfl,hN⟩) q⟩
def adH(m:Nat):wq:=(List.range m).map λi=>(List.range m).map λj=>frR (if j=i then 1 else 0)
def xZ:ST:=λts q=>∃m:Nat,ts=[.int m]/\m<=100/\q (.l2 (adH m))
def K3(T:Tx D):gT 1 qQ jC xZ:=ya T.Lx λF=>by
 refine F.okT Kh (λhr _=>bH (bO (ac8 (bG j5) j8 j8 "row" (dW T.fQ (bx wn bA)) agn cA (YZ (bG j5) ("row"::j8) ("row"::j8) ["column"] (dW T.fQ (bx we bA)) (eF (i:=0)) cA (NT (b_ (yY hr.units) wn we) (lU T.zT T.sV) (lU T.kE T.i_)))))) ?_;rintro _ R ⟨m,rfl,h,q⟩;have sz:(100:Nat)<=sizeLine:=by decide
 have rl:(rng 0 m).length<=sizeLine:=by rw[rng,ak,WP];exact aL h sz
 refine⟨⟨by lia,by lia⟩,rl,VF (λi=>(List.range m).map λj=>frR (if j=i then 1 else 0)) m (λi hi N M hN=>⟨⟨by lia,by lia⟩,rl,P0 (λj=>frR (if j=i then 1 else 0)) m (λj hj N M hN=>?_) hN⟩) q⟩;by_cases e:j=i
 .rw[ZY e]at hN;exact swT (Zs wo) hN
 .rw[ZZ e]at hN;exact swF (Zp wo) hN
def dT:xC->T
 |none=>.non
 |some d=>.int d
def w6:xC->Nat->Bool
 |none,n=>decide (n=0)
 |some d,n=>decide (d<n)
structure PlT(off:zi)(pl:zt):Prop where
 len:pl.length=off.length
 ok:∀(k:Nat)(d:xC)(ds:List bV),pl[k]?=some d->off[k]?=some ds->w6 d ds.length=true
def Zg:ST:=λts q=>∃(d:xC)(n:Nat),ts=[dT d,.int n]/\q (.fz (.bl (w6 d n)))
def aed(T:Tx D):gT 2 CJ vq Zg:=ya T.acv λF=>by
 refine F.okT Za (λhr _=>bF (cC (b_ (yY hr.units) we bC)
  (bH (bO (qR Bj wn fY)))
  bR)
  (bH (bO (Ey (bI (Vn T) (bx wn bA)) (Ew (Kg JF Cg bC wn we)))))) ?_
 rintro _ R ⟨d,n,rfl,q⟩;by_cases e:n=0
 .subst e;cases d with
  |none=>exact q
  |some d=>exact q
 .refine swF (Zp wo) ?_;cases d with
  |none =>
   rw[show w6 none n=false from Zp e]at q;exact⟨_,_,rfl,rfl,q⟩
  |some d =>
   rw[show w6 (some d) n=decide ((d:Int)<(n:Int))from decide_eq_decide.mpr (by omega)]at q;exact⟨_,_,rfl,rfl,q⟩
def Ad(D:Adr):ST:=λts q=>∃(s:Rat)(ns:Θ)(off:zi)(pl:zt),ts=[hlT D s ns off,.lst (pl.map dT)]/\Fb ns off/\PlT off pl/\q (.fz (.bl true))
def Mu(T:Tx D):gT 4 gP fB (Ad D):=ya T.DW λF=>by
 refine F.okT Af (λhr _=>bF (cC (QW.qt (kJ (dZ (cY (nu .list we T.cH T.qH boot_list))) (iC (b_ (lN hr.units) (bM cI T.dI WJ (bx we bA)) (pW wn T.g_ T.jP (QZ T) (KS:=jg))))))
  (bH gJ)
  bR)
  (bF (dU (vA T.jD (bx we bA)) (eX (n:=2) (bN (bY (n:=99) 2) (bN (bY (n:=99) 3) c7)))
  (bH (cC (dZ (cY (bI (aed T) (bx wP (bx (bM cI T.dI WJ (bx (DQ wn T.g_ T.ql (aae T) (bx wa bA) (KS:=jg)) bA)) bA)))))
  (bH gJ)
  bR)))
  (bH (bO gW)))) ?_
 rintro _ R ⟨s,ns,off,pl,rfl,h,hp,q⟩;refine⟨⟨rfl,rfl⟩,_,_,_,rfl,swF ?_ ?_⟩
 .show xr true (decide ((((pl.map dT).length:Nat):Int)=(ns.length:Nat)))=false;rw[ak,hp.len,h.len,Zs rfl]
  rfl
 .refine zH dT pl (λk o=>∃x y,o=[.fz (hlT D s ns off),.fz (.lst (pl.map dT)),x,y]) ⟨_,_,rfl⟩ ?_ ?_
  .rintro k d _ e ⟨x,y,rfl⟩;have lk:k<off.length:=by rw[<- hp.len];exact(ao.mp e).1
   have ek:=aj lk;refine⟨rfl,⟨rfl,rfl⟩,_,_,_,k,_,rfl,h,ek,d,(off[k]).length,?_,?_⟩
   .show[dT d,L2.T.int ((((off[k]).map ofT).length:Nat):Int)]=_;rw[ak]
   .rw[hp.ok k d _ e ek];exact⟨_,_,rfl⟩
  .rintro _ ⟨x,y,rfl⟩;exact q
def chO(off:zi)(pl:zt):xf:=pl.zipIdx.map λp=>p.1.bind λd=>(off.getD p.2 [])[d]?
def opT:xN->T
 |none=>.non
 |some o=>ofT o
def vD(D:Adr):ST:=λts q=>∃(s:Rat)(ns:Θ)(off:zi)(pl:zt),ts=[hlT D s ns off,.lst (pl.map dT)]/\Fb ns off/\PlT off pl/\q (.l1 ((chO off pl).map opT))
def Gz(T:Tx D):gT 4 oW iR (vD D):=ya T.Ky λF=>by
 refine F.okT GD (λ_ _=>bH (bO (dG (bG mF) qz qz ["room","door"] (vA T.jD (bx we bA)) (eX (n:=2) (bN (eF (i:=0)) (bN (eF (i:=1)) c7))) cA (NT (b_ Bj we fY) fY (bJ (DQ wa T.g_ T.ql (aae T) (bx wn bA) (KS:=jg)) we))))) ?_;rintro _ R ⟨s,ns,off,pl,rfl,h,hp,q⟩;refine⟨by unfold rE;rw[ak,UP,ak,hp.len,h.len];exact aL h.few wp,?_⟩;rw[Ku];refine comp_map (λp=>.tup [.int (p.2:Nat),dT p.1]) (λp=>opT (p.1.bind λd=>(off.getD p.2 [])[d]?)) pl.zipIdx (λp hm N M hN=>⟨rfl,?a⟩) ?b
 case b =>
  unfold chO at q;rw[WS]at q;exact q
 case a =>
  obtain⟨d,k⟩:=p;have e:=List.mem_zipIdx_iff_getElem?.mp hm;have lk:k<off.length:=by rw[<- hp.len];exact(ao.mp e).1
  have ek:=aj lk;have eg:off.getD k []=off[k]:=by rw[au,ek];rfl
  have ft:=hp.ok k d _ e ek;cases d with
  |none=>exact hN
  |some d =>
   have ld:d<(off[k]).length:=of_decide_eq_true ft;have hN:N (opT ((off.getD k [])[d]?)):=hN;rw[eg,aj ld]at hN;exact⟨⟨rfl,rfl⟩,_,_,_,k,_,rfl,h,ek,_,dB (aj ld),hN⟩
open Rw (vr jL jc oR gcL iH iK rN lX Big qd j9 nZ lg nQ gO)
abbrev Row:=List Int×Int
abbrev xj:=List Row
abbrev rwT(r:Row):T:=.tup [.lst (r.1.map T.int),.int r.2]
def NN:Nat:=10^600
def ajb{i:Int}(h:i.natAbs<=NN*NN*NN):Bd i:=Y3 h (by decide +kernel)
def bdN{i:Int}(h:i.natAbs<=NN):Bd i:=ajb (aL h (by decide +kernel))
def ae3{i:Int}(h:i.natAbs<=NN*NN):Bd i:=ajb (aL h (by decide +kernel))
def ael{b:Int}(h1:a.natAbs<=m)(h2:b.natAbs<=n):(a*b).natAbs<=m*n:=by rw[VT];exact VS h1 h2
def tU{b:Int}(h:0<b):Int.fdiv a b=a/b:=Q3 _ (XY h)
def Ea:ST:=λts q=>∃r:Row,ts=[.lst (r.1.map T.int),.int r.2]/\0<r.2/\Bd r.2/\r.1.length<=1000/\q (.fz (rwT (jL r)))
def ZP(T:Tx D):gT 2 zG pL Ea:=ya T.aa0 λF=>by
 refine F.okT aaf (λ_ _=>bF (bQ 2 we)
  (bF (dU (cj wn) (bY (n:=99) 3)
  (bH (bQ 2 (bI (Wn T) (bx wP (bx wa bA))))))
  (bH (bO (dN (bx (dG (bG DX) Tp ["tops","bottom","common","?top"] ["top"] (cj wn) (eF (i:=0)) cA (bL iD wn wP)) (bx (bL iD we wa) bA))))))) ?_
 rintro _ R ⟨⟨tops,b⟩,rfl,hb,bb,tl,q⟩;have hb:0<b:=hb;have bb:Bd b:=bb;refine fL L2.T.int tops (λas o=>∃x,o=[.fz (.lst (tops.map L2.T.int)),.fz (.int b),.fz (.int (gcL as b)),x]) ⟨_,rfl⟩ ?_ ?_
 .rintro as a bs _ e ⟨x,rfl⟩;refine⟨_,_,rfl,.fz (.int a),?_⟩;rw[show gcL (as++[a]) b=((Int.gcd a (gcL as b):Nat):Int)from by unfold gcL;rw[List.foldl_append];rfl]
  rfl
 .rintro _ ⟨x,rfl⟩;have g0:=iH (ts:=tops) hb;have g1:Bd (gcL tops b):=Ob (by have:=rN (ts:=tops) hb;omega) bb;refine⟨by rw[ak];exact aL tl wp,comp_map L2.T.int (λt=>.int (t/gcL tops b)) tops (λt ht N M hN=>⟨⟨by exact WU g0,g1⟩,?_⟩) ⟨⟨by exact WU g0,g1⟩,?_⟩⟩
  .rw[tU g0];exact hN
  .rw[tU g0];have:(jL (tops,b)).1.map L2.T.int=tops.map λt=>.int (t/gcL tops b):=WS;rwa[<- this]
structure Fn(c:Rat):Prop where
 n:c.num.natAbs<=NN
 d:c.den<=NN
abbrev pr(c:Rat):Int×Int:=(c.num,c.den)
def Cu:ST:=λts q=>∃(r:Row)(c:Rat),ts=[rwT r,frR c]/\Big NN r/\r.1.length<=1000/\Fn c/\q (.fz (rwT (jL (jc r (pr c)))))
def R7(T:Tx D):gT 3 uL mR Cu:=ya T.UJ λF=>by
 refine F.okT QH (λ_ _=>bH (bO (bI (ZP T) (bx (dG (bG rJ) v9 v9 ["top"] (cj (bJ wn bC)) (eF (i:=0)) cA (bL cR wn (bJ wa bC))) (bx (bL cR (bJ wn bC) (bJ we bC)) bA))))) ?_;rintro _ R ⟨r,c,rfl,hr,rl,hc,q⟩;have:=c.den_pos;have cd:((c.den:Nat):Int).natAbs<=NN:=hc.d;refine⟨by rw[ak];exact aL rl wp,comp_map L2.T.int (λt=>.int (t*c.num)) r.1 (λt ht N M hN=>⟨⟨bdN (hr.top t ht),bdN hc.n⟩,hN⟩) ⟨⟨bdN hr.bot,bdN cd⟩,jc r (pr c),?_,XZ hr.pos (show(0:Int)<(c.den:Nat)by lia),ae3 (ael hr.bot cd),by show(r.1.map _).length<=1000;rw[ak];exact rl,q⟩⟩;show _=[L2.T.lst ((r.1.map λt=>t*c.num).map L2.T.int),.int (r.2*c.den)];rw[WS]
 rfl
def Ge:ST:=λts q=>∃(r o:Row)(c:Rat),ts=[rwT r,rwT o,frR c]/\Big NN r/\Big NN o/\r.1.length<=1000/\o.1.length=r.1.length/\Fn c/\q (.fz (rwT (jL (oR r o (pr c)))))
def Tg(T:Tx D):gT 3 yP oH Ge:=ya T.WX λF=>by
 refine F.okT Gm (λ_ _=>bF (bQ 3 (bL cR (bJ we bC) (bJ wa bC)))
  (bF (bQ 4 (bI (Wn T) (bx (bJ wn bC) (bx wP bA))))
  (bF (bQ 5 (bL iD wP wE))
  (bF (bQ 6 (bL cR (bL iD (bJ wn bC) wE) (bJ wa bC)))
  (bF (nU (bG uU) Bg Bg ["one","another"] (JL T.Uo (bx (bJ wn bC) (bx (bJ we bC) bA))) (eX (n:=2) (bN (eF (i:=0)) (bN (eF (i:=1)) c7))) cA (bL cD (bL cR wn (qv 7)) (bL cR we (qv 8))) (jU (i:=7) Gm.nd rfl (Or.inl rfl)))
  (bH (bO (bI (ZP T) (bx (qv 7) (bx (bL cR (bJ wn bC) (qv 5)) bA)))))))))) ?_
 rintro _ R ⟨r,o,c,rfl,hr,ho,rl,ol,hc,q⟩;have:=c.den_pos;have cd:((c.den:Nat):Int).natAbs<=NN:=hc.d;have hB:0<o.2*(c.den:Int):=XZ ho.pos wo;have bB:=ael ho.bot cd;have g0:=nW (a:=r.2) (WU hB);have gr:((Int.gcd r.2 (o.2*(c.den:Int)):Nat):Int)≠0:=by exact WU g0
 have gl:Int.gcd r.2 (o.2*(c.den:Int))<=r.2.natAbs:=UX (by have:=hr.pos;omega) (Int.gcd_dvd_natAbs_left ..);have gb:Bd ((Int.gcd r.2 (o.2*(c.den:Int)):Nat):Int):=bdN (by have:=hr.bot;lia);have d2:(o.2*(c.den:Int)/((Int.gcd r.2 (o.2*(c.den:Int)):Nat):Int)).natAbs<=NN*NN:=aL (Int.natAbs_ediv_le_natAbs _ _) bB;have d1:(r.2/((Int.gcd r.2 (o.2*(c.den:Int)):Nat):Int)).natAbs<=NN:=aL (Int.natAbs_ediv_le_natAbs _ _) hr.bot;refine⟨⟨bdN ho.bot,bdN cd⟩,_,_,rfl,⟨gr,gb⟩,⟨gr,gb⟩,⟨by rw[tU g0];exact bdN d1,bdN hc.n⟩,?_⟩;rw[tU g0,tU g0];refine⟨by unfold Gw;rw[ak,W1,ak,ak,ol,VU];exact aL rl wp,?_⟩;rw[zip_map];refine comp_map (λp=>.tup [.int p.1,.int p.2]) (λp=>.int (p.1*(o.2*(c.den:Int)/((Int.gcd r.2 (o.2*(c.den:Int)):Nat):Int))+p.2*(r.2/((Int.gcd r.2 (o.2*(c.den:Int)):Nat):Int)*c.num))) (r.1.zip o.1) (λp hp N M hN=>⟨rfl,⟨bdN (hr.top _ (US hp).1),ae3 d2⟩,⟨bdN (ho.top _ (US hp).2),ae3 (ael d1 hc.n)⟩,hN⟩) ⟨⟨bdN hr.bot,ae3 d2⟩,oR r o (pr c),?_,?_,ajb ?_,?_,q⟩
 .show _=[L2.T.lst ((List.zipWith _ r.1 o.1).map L2.T.int),_];rw[List.map_zipWith,List.zip,List.map_zipWith]
  rfl
 .exact XZ hr.pos (Zzy hB (XY g0) (JS ..))
 .rw[Nat.mul_assoc];exact ael hr.bot d2
 .show(List.zipWith _ r.1 o.1).length<=1000;rwa[TU,ol,VU]
open Rw (vr jL jc oR gcL iH iK rN lX Big qd j9 nZ lg nQ gO)
inductive Stp where
 |swap (i j:Nat)|times (i:Nat) (c:Rat)|add (i j:Nat) (c:Rat)
def stT:Stp->T
 |.swap i j=>.tup [.str "swap",.int i,.int j]
 |.times i c=>.tup [.str "times",.int i,frR c]
 |.add i j c=>.tup [.str "add",.int i,.int j,frR c]
def rAt(rs:xj)(i:Nat):Row:=rs.getD i ([],1)
def xK(rs:xj):Stp->xj
 |.swap i j=>(rs.set i (rAt rs j)).set j (rAt rs i)
 |.times i c=>rs.set i (jL (jc (rAt rs i) (pr c)))
 |.add i j c=>rs.set i (jL (oR (rAt rs i) (rAt rs j) (pr c)))
def am1(n:Nat):Stp->Prop
 |.swap i j=>i<n/\j<n
 |.times i c=>i<n/\Fn c
 |.add i j c=>i<n/\j<n/\Fn c
def zN{rs:xj}(h:i<rs.length):rs[i]?=some (rAt rs i):=by
 unfold rAt;rw[au,aj h];rfl
def fP{rs:xj}(h:i<rs.length):rAt rs i∈rs:=aC (zN h)
def xq(h:i<n):ixN n ((i:Nat):Int)=some i:=by
 unfold ixN;rw[ZY (X9 _),ZY wo];rfl
def uG{rs:xj}(h:i<rs.length):ixT (rs.map rwT) ((i:Nat):Int)=some (rwT (rAt rs i)):=dB (zN h)
structure Rws(rs:xj)(wd:Nat):Prop where
 big:∀r∈rs,Big NN r
 wds:∀r∈rs,r.1.length=wd
 few:rs.length<=100
 wde:wd<=1000
def DK:SO:=λtss ts R=>∃(rs:xj)(st:Stp)(wd:Nat),tss=[rs.map rwT]/\ts=[stT st]/\Rws rs wd/\am1 rs.length st/\R [(xK rs st).map rwT]
def QX(T:Tx D):OkF P w K mg base 4 u_ mK (spO K DK):=ya T.Vy λF=>by
 refine F.okO Qt (λtss ts R ⟨rs,st,wd,e1,e2,_⟩=>by rw[e1,e2];rfl) wp λai A outer s H E hr nd=>?_;refine⟨_,(bF (bQ 2 (vf 0 (bJ we bC)))
  (bH (cC (b_ (yY hr.units) (bJ we bC) lJ)
  (bF (sW 0 (vf 0 (bJ we bC)) (bJ we bC))
  (bH (sW 0 wa (bJ we bC))))
  (bH (cC (b_ (yY hr.units) (bJ we bC) lJ)
  (bH (sW 0 (bI (R7 T) (bx wa (bx (bJ we bC) bA))) (bJ we bC)))
  (bH (sW 0 (bI (Tg T) (bx wa (bx (vf 0 (bJ we bC)) (bx (bJ we bC) bA)))) (bJ we bC)))))))),?_⟩
 rintro as tss ts R tl ⟨rs,st,wd,rfl,rfl,h,hs,q⟩;obtain⟨a,rfl⟩ : ∃a,as=[a]:=by
  match as,tl with
  |[a],_=>exact⟨a,rfl⟩
 have fin:∀(L:List L2.T)(x y:OT),R [L]->∃bj,(∀j,slot [.la a L,x,y] j=slot (List.zipWith OT.la [a] bj) j\/[a].length<=j)/\bj.length=[a].length/\R bj:=λL x y q=>⟨[L],λj=>by
  cases j with
  |zero=>exact .inl rfl
  |succ j=>exact .inr wr,rfl,q⟩
 have lm:(rs.map rwT).length=rs.length:=ak _
 match st,hs,q with
 |.swap i j,hs,q =>
  refine⟨_,uG hs.1,_,uG hs.2,i,xq (lm ▸ hs.1),j,xq (by rw[WH,lm];exact hs.2),fin _ _ _ ?_⟩;rw[xK,Tu,Tu]at q;exact q
 |.times i c,hs,q =>
  have m:=fP hs.1;refine⟨_,uG hs.1,rAt rs i,c,rfl,h.big _ m,by rw[h.wds _ m];exact h.wde,hs.2,i,xq (lm ▸ hs.1),fin _ _ _ ?_⟩;rw[xK,Tu]at q;exact q
 |.add i j c,hs,q =>
  have m:=fP hs.1;have n:=fP hs.2.1;refine⟨_,uG hs.1,_,uG hs.2.1,rAt rs i,rAt rs j,c,rfl,h.big _ m,h.big _ n,by rw[h.wds _ m];exact h.wde,by rw[h.wds _ m,h.wds _ n],hs.2.2,i,xq (lm ▸ hs.1),fin _ _ _ ?_⟩;rw[xK,Tu]at q;exact q
open Rw (vr jL jc oR gcL iH iK rN lX Big qd j9 nZ lg nQ gO)
def uJ:ST:=λts q=>∃(r:Row)(k:Nat),ts=[rwT r,.int k]/\k<r.1.length/\Big NN r/\q (.fz (frR (vr r k)))
def O7(T:Tx D):gT 3 pC jX uJ:=ya T.Ug λF=>by
 refine F.okT RJ (λ_ _=>bH (bO (bI (abK T) (bx (bJ (bJ wn bC) we) (bx (bJ wn bC) bA))))) ?_;rintro _ R ⟨r,k,rfl,hk,hr,q⟩;have h0:=hr.pos;refine⟨_,dB (aj hk),_,_,rfl,by exact WU h0,bdN hr.bot,λx y l=>?_⟩;rw[kZ l (WU h0),Q1];unfold vr at q;rw[au,aj hk]at q;exact q
def vB:ST:=λts q=>∃(rs:xj)(wd:Nat),ts=[.lst (rs.map rwT)]/\Rws rs wd/\q (.l1 (rs.map λr=>.lst ((List.range wd).map λk=>frR (vr r k))))
def Gu(T:Tx D):gT 3 oU iT vB:=ya T.Il λF=>by
 refine F.okT Gx (λ_ _=>bH (bO (afc (bG jz) jy jy "row" (cj wn) agn cA (YZ (bG jz) ("row"::jy) ("row"::jy) ["top"] (cj (bJ wn bC)) (eF (i:=0)) cA (bI (abK T) (bx wn (bx (bJ we bC) bA))))))) ?_;rintro _ R ⟨rs,wd,rfl,h,q⟩;refine⟨by rw[ak];exact aL h.few wp,comp_map rwT (λr=>.lst ((List.range wd).map λk=>frR (vr r k))) rs (λr hr N M hN=>⟨by rw[ak,h.wds r hr];exact aL h.wde wp,?_⟩) q⟩;have hb:=h.big r hr;have h0:=hb.pos;refine comp_map L2.T.int (λt=>frR ((t:Rat)/(r.2:Rat))) r.1 (λt ht N M hN=>⟨_,_,rfl,by exact WU h0,bdN hb.bot,λx y l=>by rwa[kZ l (WU h0),Q1]⟩) ?_;have e:(r.1.map λt:Int=>frR ((t:Rat)/(r.2:Rat)))=(List.range wd).map λk=>frR (vr r k):=by
  refine UV (by rw[ak,ak,WP,h.wds r hr]) λn h1 h2=>?_;rw[ak]at h1;rw[VZ,VZ,UK];unfold vr;rw[au,aj h1]
  rfl
 rwa[e]
def adB{lo:Nat}{t:T}(e:(rng (lo:Nat) n)[i]?=some t):i<n/\t=.int ((lo+i:Nat):Int):=by
 unfold rng at e;rw[aq]at e;by_cases hi:i<n
 .rw[VX hi]at e;cases e;exact⟨hi,rfl⟩
 .rw[aM (by simpa using hi)]at e;cases e
def ac9{r:Row}(h:0<r.2)(hk:k<r.1.length):vr r k=0↔r.1[k]=0:=by
 have e:vr r k=(r.1[k] : Rat)/(r.2:Rat):=by unfold vr;rw[au,aj hk];rfl
 have n:(r.2:Rat)≠0:=λz=>by have:=Rat.intCast_eq_zero_iff.mp z;lia
 rw[e];constructor
 .intro z;have:(r.1[k] : Rat)=0:=by grind
  exact Rat.intCast_eq_zero_iff.mp this
 .intro z;rw[z];grind
def z9:ST:=λts R=>∃(rs:xj)(wd p k:Nat),ts=[.lst (rs.map rwT),.int p,.int k]/\Rws rs wd/\p<=rs.length/\k<wd/\(∀q,p<=q->q<rs.length->vr (rAt rs q) k≠0->R (.fz (.int q)))/\((∀i,p<=i->i<rs.length->vr (rAt rs i) k=0)->R (.fz .non))
def Mt(T:Tx D):gT 1 rZ j7 z9:=ya T.R0 λF=>by
 refine F.okT Lh (λhr _=>bF (dU (NK T.fQ (bx we (bx (bM cI T.dI WJ (bx wn bA)) bA))) (bY (n:=99) 3)
  (bH (cC (b_ (lN hr.units) (bJ (bJ (bJ wn wP) bC) wa) bC)
  (bH (bO wP))
  bR)))
  (bH (bO fY))) ?_
 rintro _ R ⟨rs,wd,p,k,rfl,h,hp,hk,q,q0⟩;have at_:∀i,i<rs.length->k<(rAt rs i).1.length:=λi hi=>by rwa[h.wds _ (fP hi)]
 have few:=h.few;have lm:(rs.map rwT).length=rs.length:=ak _;refine⟨⟨by lia,by lia,by lia,by lia⟩,zP (λi o=>∃x,o=[.fz (.lst (rs.map rwT)),.fz (.int p),.fz (.int k),x]/\∀j,p<=j->j<p+i->vr (rAt rs j) k=0) _ 0 ⟨_,rfl,λj _ _=>by lia⟩ (λi t o e z=>?_) λo z=>?_⟩
 .obtain⟨hi,rfl⟩:=adB e;rw[lm]at hi;have e9:p+i<rs.length:=by omega
  obtain⟨x,rfl,hz⟩:=z;have v0:=ac9 (h.big _ (fP e9)).pos (at_ _ e9);refine⟨_,uG e9,_,dB (aj (at_ _ e9)),?_⟩;by_cases c:(rAt rs (p+i)).1[k]'(at_ _ e9)=0
  .refine swF (by show xr true (decide (_=_))=false;rw[Zs c];rfl) ⟨_,rfl,λj hj hl=>?_⟩;by_cases ej:j=p+i
   .rw[ej];exact v0.mpr c
   .exact hz j hj wo
  .exact swT (by show xr true (decide (_=_))=true;rw[Zp c];rfl) (q _ (X1 _ _) e9 λz=>c (v0.mp z))
 .obtain⟨x,rfl,hz⟩:=z;refine q0 λj hj hl=>hz j hj ?_;unfold rng;rw[ak,WP,lm];lia
def Jt:SO:=λtss ts R=>∃(rs:xj)(ss:zn)(st:Stp)(wd:Nat),tss=[rs.map rwT,ss]/\ts=[stT st]/\Rws rs wd/\am1 rs.length st/\ss.length<sizeLine/\R [(xK rs st).map rwT,ss++[stT st]]
def adO(T:Tx D):OkF P w K mg base 5 CW tO (spO K Jt):=ya T.aeP λF=>by
 refine F.okO acS (λtss ts R ⟨rs,ss,st,wd,e1,e2,_⟩=>by rw[e1,e2];rfl) wp λai A outer s H E hr nd=>?_;refine⟨_,(bF (ahM 0 (QX T) (bx wa bA))
  (bH (rR 1 wa))),?_⟩
 rintro as tss ts R tl ⟨rs,ss,st,wd,rfl,rfl,h,hs,hl,q⟩;obtain⟨a,b,rfl⟩ : ∃a b,as=[a,b]:=by
  match as,tl with
  |[a,b],_=>exact⟨a,b,rfl⟩
 refine⟨rs,st,wd,rfl,rfl,h,hs,hl,[(xK rs st).map rwT,ss++[stT st]],λj=>?_,rfl,q⟩
 match j with
 |0=>exact .inl rfl
 |1=>exact .inl rfl
 |j+2=>exact .inr wr
open Rw (vr jL jc oR gcL iH iK rN lX Big qd j9 nZ lg nQ gO)
def Hv{rs:xj}{r:Row}(h:i<rs.length)(j:Nat):rAt (rs.set i r) j=if j=i then r else rAt rs j:=by
 unfold rAt;rw[au,au,List.getElem?_set];by_cases e:i=j
 .subst e;rw[ZY rfl,ZY rfl,ZY h];rfl
 .rw[ZZ e,ZZ (Ne.symm e)]
def Fn.of{b:Int}(hb:b≠0)(h1:a.natAbs<=NN)(h2:b.natAbs<=NN):Fn (Rat.divInt a b):=by
 have hg:=Zzz a hb;have low:∃x y,Low a b x y:=by
  rcases Int.lt_or_lt_of_ne hb with z|z
  .exact⟨_,_,yZ (c:=-((Int.gcd a b:Nat):Int)) hb wo wo (Int.mul_pos_of_neg_of_neg wo z)⟩
  .exact⟨_,_,yZ (c:=((Int.gcd a b:Nat):Int)) hb wo wo (XZ wo z)⟩
 obtain⟨x,y,l⟩:=low;have e:=kZ l hb;injection e with e;injection e with e1 e;injection e with e2 e;injection e1 with e1;injection e2 with e2;exact⟨by rw[<- e1];exact aL l.lx h1,by have:=l.ly;lia⟩
def ab6{r:Row}(hk:k<r.1.length):vr r k=Rat.divInt r.1[k] r.2:=by
 unfold vr;rw[au,aj hk,Q1];rfl
def Fn.vr{r:Row}{k:Nat}(h:Big NN r)(hk:k<r.1.length):Fn (vr r k):=by
 have:=h.pos;rw[ab6 hk];exact Fn.of (WU this) (h.top _ (aU _)) h.bot
def Fn.inv(h:Fn c)(h0:c≠0):Fn (1/c):=by
 have nb:c.num≠0:=λz=>h0 (by rw[<- rd c,z];exact Rat.zero_divInt _);rw[Rat.div_def,Rat.one_mul,Rat.inv_def];exact Fn.of nb h.d h.n
def Fn.neg(h:Fn c):Fn (0-c):=by
 rw[Rat.sub_eq_add_neg,TK];exact⟨by show(-c.num).natAbs<=NN;rw[Int.natAbs_neg];exact h.n,h.d⟩
def Fn.bq(h:Fn c):Bq c:=⟨bdN h.n,bdN h.d⟩
def Rws.fn{rs:xj}(h:Rws rs wd)(hi:i<rs.length)(hk:k<wd):Fn (Rw.vr (rAt rs i) k):=Fn.vr (h.big _ (fP hi)) (by rwa[h.wds _ (fP hi)])
def Rws.of{rs eR:xj}(h:Rws rs wd)(hl:eR.length=rs.length)(hr:∀i,i<rs.length->Big NN (rAt eR i)/\(rAt eR i).1.length=wd):Rws eR wd:=by
 have:∀r∈eR,Big NN r/\r.1.length=wd:=λr hm=>by
  obtain⟨i,hi,e0⟩:=List.getElem_of_mem hm;have e:=zN hi;rw[aj hi,e0]at e;injection e with e;rw[e];exact hr i (hl ▸ hi)
 exact⟨λr hm=>(this r hm).1,λr hm=>(this r hm).2,hl ▸ h.few,h.wde⟩
def Io(rs:xj)(st:Stp):(xK rs st).length=rs.length:=by cases st<;>simp[xK]
def bgP(r:Row)(k:Nat):Row:=if vr r k=1 then r else jL (jc r (pr (1/vr r k)))
def bgA(rs:xj)(p q k i:Nat):Row:=if i=p then bgP (rAt rs q) k else rAt rs (Rw.sw p q i)
def swR(rs:xj)(p q:Nat):xj:=if q=p then rs else xK rs (.swap p q)
def aea(rs:xj)(p q:Nat):(swR rs p q).length=rs.length:=by
 unfold swR;split
 .rfl
 .exact Io _ _
def agZ{rs:xj}{p:Nat}(hp:p<rs.length)(hq:q<rs.length)(i:Nat):rAt (swR rs p q) i=rAt rs (Rw.sw p q i):=by
 unfold swR Rw.sw;by_cases e:q=p
 .subst e;rw[ZY rfl];by_cases c:i=q
  .rw[ZY c,c]
  .rw[ZZ c,ZZ c]
 .rw[ZZ e];show rAt ((rs.set p (rAt rs q)).set q (rAt rs p)) i=_;rw[Hv (by rwa[WH]),Hv hp];by_cases c:i=q
  .subst c;rw[ZY rfl,ZZ e,ZY rfl]
  .rw[ZZ c];by_cases d:i=p
   .rw[ZY d,ZY d]
   .rw[ZZ d,ZZ d,ZZ c]
def Dr:SO:=λtss ts R=>∃(rs:xj)(ss:zn)(wd p q k:Nat),tss=[rs.map rwT,ss]/\ts=[.int p,.int q,.int k]/\Rws rs wd/\p<rs.length/\q<rs.length/\k<wd/\vr (rAt rs q) k≠0/\ss.length+2<sizeLine /\
 ∀eR jv,eR.length=rs.length->(∀i,i<rs.length->rAt eR i=bgA rs p q k i)->jv.length<=ss.length+2->R [eR.map rwT,jv]
def ahh{x y:RS}(J:zC->Prop)(k:∀o',J o'->y E o')(h:(∀o',J o'->y E o')->h_ x y E o):h_ x y E o:=h k
def eqR(v u:Rat):(decide (v.num=u.num)&&decide (((v.den:Nat):Int)=u.den))=decide (v=u):=by
 rw[<- Bool.decide_and];refine decide_eq_decide.mpr ⟨λ⟨a,b⟩=>Rat.ext a wo,λz=>by rw[z];exact⟨rfl,rfl⟩⟩
def fin2{R:wq->Prop}{a b:Addr}(L M:zn)(q:R [L,M]):∃bj,(∀j,slot (.la a L::.la b M::o) j=slot (List.zipWith OT.la [a,b] bj) j\/[a,b].length<=j)/\bj.length=[a,b].length/\R bj:=⟨[L,M],λj=>by
 match j with
 |0=>exact .inl rfl
 |1=>exact .inl rfl
 |j+2=>exact .inr wr,rfl,q⟩
def acA{β:Type}{as:List α}{x y:β}(tl : [x,y].length=as.length):∃a b,as=[a,b]:=by
 match as,tl with
 |[a,b],_=>exact⟨a,b,rfl⟩
def Ry(T:Tx D):OkF P w K mg base 6 uP mH (spO K Dr):=ya T.VD λF=>by
 refine F.okO Pj (λtss ts R ⟨rs,ss,wd,p,q,k,e1,e2,_⟩=>by rw[e1,e2];rfl) wp λai A outer s H E hr nd=>?_;refine⟨_,(bF (cC (b_ (lN hr.units) wP wa)
  (bH (Kq 0 1 (adO T) hr.md (by rfl) (bx (dN (bx lJ (bx wa (bx wP bA)))) bA)))
  bR)
  (bF (bQ 5 (bI (O7 T) (bx (vf 0 wa) (bx wE bA))))
  (bH (cC (b_ (lN hr.units) (qv 5) (lU T.zT T.sV))
  (bH (Kq 0 1 (adO T) hr.md (by rfl) (bx (dN (bx lJ (bx wa (bx (bI (aeQ T) (bx (lU T.zT T.sV) (bx (qv 5) bA))) bA)))) bA)))
  bR)))),?_⟩
 rintro as tss ts R tl ⟨rs,ss,wd,p,q,k,rfl,rfl,h,hp,hq,hk,h0,hl,ok⟩;obtain⟨a,b,rfl⟩:=acA tl;have sl:=aea rs p q;have sa:=agZ hp hq;have ib:Rw.sw p q p=q:=ZY rfl;have swl:∀i,i<rs.length->Rw.sw p q i<rs.length:=λi hi=>by
  unfold Rw.sw;split
  .exact hq
  .split<;>omega
 have hS:Rws (swR rs p q) wd:=h.of sl λi hi=>by rw[sa];exact⟨h.big _ (fP (swl i hi)),h.wds _ (fP (swl i hi))⟩
 refine ahh (λo=>∃eh,o=[.la a ((swR rs p q).map rwT),.la b eh,.fz (.int p),.fz (.int q),.fz (.int k),.und]/\eh.length<=ss.length+1) ?_ λgo=>?_
 .rintro _ ⟨eh,rfl,l1⟩;have eK:p<(swR rs p q).length:=by lia
  have hk':k<(rAt (swR rs p q) p).1.length:=by rwa[hS.wds _ (fP eK)]
  have fn:=hS.fn eK hk;refine⟨_,uG eK,_,k,rfl,hk',hS.big _ (fP eK),?_⟩;have v:vr (rAt (swR rs p q) p) k=vr (rAt rs q) k:=by rw[sa,ib]
  rw[v];rw[v]at fn;by_cases e:vr (rAt rs q) k=1
  .refine swF (by show xr true (_&&_)=false;rw[show(decide ((vr (rAt rs q) k).num=1)&&decide (((vr (rAt rs q) k).den:Int)=1))=_ from eqR _ 1,Zs e];rfl) (fin2 _ _ (ok _ _ sl (λi hi=>?_) (aL l1 (Xs _))));rw[sa];unfold bgA bgP;split
   .rename_i c;rw[c,ib]
   .rfl
  .refine swT (by show xr true (_&&_)=true;rw[show(decide ((vr (rAt rs q) k).num=1)&&decide (((vr (rAt rs q) k).den:Int)=1))=_ from eqR _ 1,Zp e];rfl) ⟨1,_,rfl,h0,bq1,fn.bq,by show Bd (1*_);rw[TZ];exact bdN fn.n,swR rs p q,eh,.times p (1/vr (rAt rs q) k),wd,rfl,rfl,hS,⟨eK,fn.inv h0⟩,by lia,fin2 _ _ (ok _ _ (by rwa[Io]) (λi hi=>?_) (by rw[aA];show _+1<=_;exact Nat.succ_le_succ l1))⟩;show rAt ((swR rs p q).set p _) i=_;rw[Hv eK,sa,sa,ib];unfold bgA bgP;split
   .rfl
   .rfl
 .by_cases e:q=p
  .refine swF (by show xr true (decide (_=_))=false;rw[Zs wo];rfl) (go [.la a (rs.map rwT),.la b ss,.fz (.int p),.fz (.int q),.fz (.int k),.und] ⟨ss,?_,by exact Xs _⟩);unfold swR;rw[ZY e]
  .refine swT (by show xr true (decide (_=_))=true;rw[Zp wo];rfl) ⟨rs,ss,.swap p q,wd,rfl,rfl,h,⟨hp,hq⟩,by lia,go [.la a ((xK rs (.swap p q)).map rwT),.la b (ss++[stT (.swap p q)]),.fz (.int p),.fz (.int q),.fz (.int k),.und] ⟨ss++[stT (.swap p q)],?_,by simp⟩⟩;unfold swR;rw[ZZ e]
open Rw (vr jL jc oR gcL iH iK rN lX Big qd j9 nZ lg nQ gO)
def clA(rs:xj)(p k i:Nat):Row:=if i=p\/vr (rAt rs i) k=0 then rAt rs i else jL (oR (rAt rs i) (rAt rs p) (pr (0-vr (rAt rs i) k)))
def vK:SO:=λtss ts R=>∃(rs:xj)(ss:zn)(wd p k:Nat),tss=[rs.map rwT,ss]/\ts=[.int p,.int k]/\Rws rs wd/\p<rs.length/\k<wd/\ss.length+rs.length<sizeLine/\(∀i,i<rs.length->Big NN (clA rs p k i)) /\
 ∀eR jv,eR.length=rs.length->(∀i,i<rs.length->rAt eR i=clA rs p k i)->jv.length<=ss.length+rs.length->R [eR.map rwT,jv]
def afK{rs:xj}{p:Nat}(h:Rws rs wd)(hp:p<rs.length)(hi:i<rs.length):(clA rs p k i).1.length=wd:=by
 unfold clA;split
 .exact h.wds _ (fP hi)
 .rw[lg];show(List.zipWith _ (rAt rs i).1 (rAt rs p).1).length=wd;rw[TU,h.wds _ (fP hi),h.wds _ (fP hp),VU]
def Hj(T:Tx D):OkF P w K mg base 6 oY iV (spO K vK):=ya T.JC λF=>by
 refine F.okO GF (λtss ts R ⟨rs,ss,wd,p,k,e1,e2,_⟩=>by rw[e1,e2];rfl) wp λai A outer s H E hr nd=>?_;refine⟨_,(bH (dU (dW T.fQ (bx (Py 0 (bM cI T.dI WJ (bx wn bA))) bA)) (bY (n:=99) 4)
  (bH (cC (QW.qt (WY (b_ (lN hr.units) wE wa) (Qq (b_ (lN hr.units) (bJ (bJ (vf 0 wE) bC) wP) bC))))
  (bF (bQ 5 (bI (abf T) (bx (lU T.kE T.i_) (bx (bI (O7 T) (bx (vf 0 wE) (bx wP bA))) bA))))
  (bH (Kq 0 1 (adO T) hr.md (by rfl) (bx (dN (bx lJ (bx wE (bx wa (bx (qv 5) bA))))) bA))))
  bR)))),?_⟩
 rintro as tss ts R tl ⟨rs,ss,wd,p,k,rfl,rfl,h,hp,hk,hl,hb,ok⟩;obtain⟨a,b,rfl⟩:=acA tl;have lm:(rs.map rwT).length=rs.length:=ak _;have few:=h.few;refine⟨trivial,⟨by lia,by lia⟩,mW (λn o=>∃de eh x y,o=[.la a (de.map rwT),.la b eh,.fz (.int p),.fz (.int k),x,y]/\de.length=rs.length/\(∀i,i<rs.length->rAt de i=if i<n then clA rs p k i else rAt rs i)/\eh.length<=ss.length+n) ⟨rs,ss,_,_,rfl,rfl,λi _=>by rw[ZZ (WZ _)],aG _⟩ ?_ ?_⟩
 .rintro n _ hn ⟨de,eh,x,y,rfl,l1,h7,s1⟩;have hn:n<rs.length:=by rw[lm]at hn;lia
  have rn:rAt de n=rAt rs n:=by rw[h7 n hn,ZZ (X2 _)]
  have rp:rAt de p=rAt rs p:=by
   rw[h7 p hp];split
   .unfold clA;rw[ZY (.inl rfl)]
   .rfl
  have h1:Rws de wd:=h.of l1 λi hi=>by
   rw[h7 i hi];split
   .exact⟨hb i hi,afK h hp hi⟩
   .exact⟨h.big _ (fP hi),h.wds _ (fP hi)⟩
  have stay:clA rs p k n=rAt rs n->∀i,i<rs.length->rAt de i=if i<n+1 then clA rs p k i else rAt rs i:=λe i hi=>by
   rw[h7 i hi];by_cases c:i=n
   .subst c;rw[ZZ (X2 _),ZY (X0 _),e]
   .by_cases d:i<n
    .rw[ZY d,ZY (WV _ d)]
    .rw[ZZ d,ZZ wo]
  by_cases e:n=p
  .exact swF (by show xr true (decide (_=_))=false;rw[Zs wo];rfl) ⟨de,eh,_,_,rfl,l1,stay (ZY (.inl e)),by lia⟩
  .have g9:n<de.length:=by lia
   have hk1:k<(rAt de n).1.length:=by rwa[h1.wds _ (fP g9)]
   have v0:=ac9 (h1.big _ (fP g9)).pos hk1;refine swT (by show xr true (decide (_=_))=true;rw[Zp wo];rfl) ⟨_,uG g9,_,dB (aj hk1),?_⟩;by_cases c:(rAt de n).1[k]'hk1=0
   .exact swF (by show xr true (decide (_=_))=false;rw[Zs c];rfl) ⟨de,eh,_,_,rfl,l1,stay (ZY (.inr (by rw[<- rn];exact v0.mpr c))),by lia⟩
   .have fn:=h1.fn g9 hk;refine swT (by show xr true (decide (_=_))=true;rw[Zp c];rfl) ⟨_,uG g9,_,k,rfl,hk1,h1.big _ (fP g9),0,_,rfl,bq0,fn.bq,by show Bd (1*_);rw[TZ];exact bdN fn.d,de,eh,.add n p (0-vr (rAt de n) k),wd,rfl,rfl,h1,⟨g9,by lia,fn.neg⟩,by lia,xK de (.add n p (0-vr (rAt de n) k)),eh++[stT (.add n p (0-vr (rAt de n) k))],_,_,rfl,by rw[Io];exact l1,λi hi=>?_,by rw[aA];show _+1<=_;lia⟩;show rAt (de.set n _) i=_;rw[Hv g9,rn,rp];by_cases d:i=n
    .rw[ZY d,d,ZY (X0 _)];unfold clA;rw[ZZ λz=>z.elim e λz=>c (v0.mp (by rw[rn];exact z))]
    .rw[ZZ d,h7 i hi];by_cases d':i<n
     .rw[ZY d',ZY (WV _ d')]
     .rw[ZZ d',ZZ wo]
 .rintro _ ⟨de,eh,x,y,rfl,l1,h7,s1⟩;rw[lm]at h7 s1;exact fin2 _ _ (ok de eh l1 (λi hi=>by rw[h7 i hi,ZY wo]) wo)
open Rw (vr jL jc oR gcL iH iK rN lX Big qd j9 nZ lg nQ gO sg jx jd cu jM j4)
def aaZ(c:Rat):(((pr c).1:Int):Rat)/(((pr c).2:Int):Rat)=c:=by rw[<- Q1];exact rd c
def PX(c:Rat):0<(pr c).2:=by have:=c.den_pos;show(0:Int)<(c.den:Nat);lia
def Yt{r:Row}(h:0<r.2):0<(jL r).2:=Zzy h (XY (iH h)) iK.1
def air{r:Row}(h:0<r.2)(h0:vr r k≠0):0<(bgP r k).2/\(bgP r k).1.length=r.1.length/\(gcL (bgP r k).1 (bgP r k).2=1\/bgP r k=r)/\∀j,vr (bgP r k) j*vr r k=vr r j:=by
 unfold bgP;by_cases e:vr r k=1
 .rw[ZY e];exact⟨h,rfl,.inr rfl,λj=>by rw[e,Rat.mul_one]⟩
 .rw[ZZ e];have tp:0<(jc r (pr (1/vr r k))).2:=XZ h (PX _);refine⟨Yt tp,by rw[lg];unfold jc;rw[ak],.inl (lX tp),λj=>?_⟩;rw[qd tp,j9 h (PX _),aaZ]
  grind
def ai1{rs:xj}{p:Nat}(hi:0<(rAt rs i).2)(hp:0<(rAt rs p).2)(hl:(rAt rs i).1.length=(rAt rs p).1.length):0<(clA rs p k i).2/\(gcL (clA rs p k i).1 (clA rs p k i).2=1\/clA rs p k i=rAt rs i)/\∀j,vr (clA rs p k i) j=if i=p then vr (rAt rs p) j else vr (rAt rs i) j-vr (rAt rs i) k*vr (rAt rs p) j:=by
 unfold clA;by_cases e:i=p
 .rw[ZY (.inl e)];exact⟨hi,.inr rfl,λj=>by rw[ZY e,e]⟩
 .by_cases z:vr (rAt rs i) k=0
  .rw[ZY (.inr z)];exact⟨hi,.inr rfl,λj=>by rw[ZZ e,z];grind⟩
  .rw[ZZ λy=>y.elim e z];have tp:0<(oR (rAt rs i) (rAt rs p) (pr (0-vr (rAt rs i) k))).2:=by
    have hB:=XZ hp (PX (0-vr (rAt rs i) k));exact XZ hi (Zzy hB (XY (nW (WU hB))) (JS _ _))
   refine⟨Yt tp,.inl (lX tp),λj=>?_⟩;rw[qd tp,nZ hi hp (PX _) hl,aaZ,ZZ e]
   grind
structure FnB(M:Nat)(c:Rat):Prop where
 n:c.num.natAbs<=M
 d:c.den<=M
def FnB.vr{M:Nat}{r:Row}{k:Nat}(h:Big M r)(hk:k<r.1.length):FnB M (Rw.vr r k):=by
 have hb:=h.pos;have hg:=Zzz r.1[k] (WU hb);have l:=yZ (t:=r.1[k]) (c:=((Int.gcd r.1[k] r.2:Nat):Int)) (WU hb) wo wo (XZ wo hb);have e:=kZ l (WU hb);rw[ab6 hk];injection e with e;injection e with e1 e;injection e with e2 e;injection e1 with e1;injection e2 with e2;exact⟨by rw[<- e1];exact aL l.lx (h.top _ (aU _)),by have:=l.ly;have:=h.bot;omega⟩
structure B0(rs0:xj)(wd N:Nat):Prop where
 big:∀i,i<rs0.length->Big N (rAt rs0 i)/\(rAt rs0 i).1.length=wd
 one:1<=N
 mb:(2*rs0.length*N)^rs0.length<=NN
 nn:N<=NN
abbrev aT(rs0:xj)(i j:Nat):Int:=(rAt rs0 i).1.getD j 0
abbrev aB(rs0:xj)(i:Nat):Int:=(rAt rs0 i).2
structure Gs(rs0:xj)(wd N c:Nat)(rs:xj):Prop where
 len:rs.length=rs0.length
 row:∀i,i<rs0.length->0<(rAt rs i).2/\(rAt rs i).1.length=wd/\(gcL (rAt rs i).1 (rAt rs i).2=1\/Big N (rAt rs i))
 st:∃pv s,gO (aT rs0) (aB rs0) rs0.length wd (λi j=>vr (rAt rs i) j) c pv s
 unit:∀i l,i<rs0.length->l<c->vr (rAt rs i) l=if i=l then 1 else 0
 ker:∀x:Nat->Rat,(∀i,i<rs0.length->sg (λj=>vr (rAt rs i) j*x j) wd=0)->∀i,i<rs0.length->sg (λj=>vr (rAt rs0 i) j*x j) wd=0
section
variable{rs0 rs:xj}{wd N c q:Nat}
def B0.zero(h:B0 rs0 wd N):Gs rs0 wd N 0 rs0:=⟨rfl,λi hi=>⟨(h.big i hi).1.pos,(h.big i hi).2,.inr (h.big i hi).1⟩,⟨λ_=>0,id,gO.zero λi hi=>(h.big i hi).1.pos⟩,λ_ _ _ z=>absurd z (WZ _),λ_ z=>z⟩
def aow{N:Nat}(hm:1<=m)(h1:1<=N):N<=(2*m*N)^m:=by
  have x:N<=2*m*N:=Zzx _ wo;have y:1<=2*m*N:=VS (show 1<=2*m by lia) h1
  calc N<=(2*m*N)^1:=by rwa[Nat.pow_one]
    _<=_:=XU y hm
def B0.sbigM(h:B0 rs0 wd N){R:Nat->Nat->Rat}{p:Nat}(st:∃pv s,gO (aT rs0) (aB rs0) rs0.length wd R p pv s)(hi:i<rs0.length){r:Row}(hr:0<r.2)(hw:r.1.length=wd)(g:gcL r.1 r.2=1\/Big N r)(e:∀j,j<wd->vr r j=R i j):Big ((2*rs0.length*N)^rs0.length) r:=by
 rcases g with g|g
 .obtain⟨pv,s,st⟩:=st;obtain⟨v,u,u0,ub,vb,ee⟩:=st.bound h.one (λi j hi hj=>by
   have b:=h.big i hi;show((rAt rs0 i).1.getD j 0).natAbs<=N;rw[au,aj (by rwa[b.2])];exact b.1.top _ (aU _)) (λi hi=>⟨(h.big i hi).1.pos,(h.big i hi).1.bot⟩) hi
  exact nQ hr g hw u0 ub vb λj hj=>by rw[e j hj];exact ee j hj
 .exact g.le (aow wo h.one)
def B0.sbig(h:B0 rs0 wd N){R:Nat->Nat->Rat}{p:Nat}(st:∃pv s,gO (aT rs0) (aB rs0) rs0.length wd R p pv s)(hi:i<rs0.length){r:Row}(hr:0<r.2)(hw:r.1.length=wd)(g:gcL r.1 r.2=1\/Big N r)(e:∀j,j<wd->vr r j=R i j):Big NN r:=(h.sbigM st hi hr hw g e).le h.mb
def Gs.bigM(g:Gs rs0 wd N c rs)(h:B0 rs0 wd N)(hi:i<rs0.length):Big ((2*rs0.length*N)^rs0.length) (rAt rs i):=h.sbigM g.st hi (g.row i hi).1 (g.row i hi).2.1 (g.row i hi).2.2 λ_ _=>rfl
def Gs.big(g:Gs rs0 wd N c rs)(h:B0 rs0 wd N)(hi:i<rs0.length):Big NN (rAt rs i):=h.sbig g.st hi (g.row i hi).1 (g.row i hi).2.1 (g.row i hi).2.2 λ_ _=>rfl
def Yw{p q:Nat}(hp:p<m)(hq:q<m)(hi:i<m):Rw.sw p q i<m:=by
 unfold Rw.sw;split
 .exact hq
 .split<;>omega
def agw(p q i:Nat):Rw.sw p q (Rw.sw p q i)=i:=by
 unfold Rw.sw;by_cases a:i=p
 .subst a;rw[ZY rfl];by_cases b:q=i
  .rw[ZY b,b]
  .rw[ZZ b,ZY rfl]
 .by_cases b:i=q
  .subst b;rw[ZZ a,ZY rfl,ZY rfl]
  .rw[ZZ a,ZZ b,ZZ a,ZZ b]
def Gs.next(g:Gs rs0 wd N c rs)(h:B0 rs0 wd N)(hc:c<rs0.length)(cw:c<wd)(hq:c<=q)(df:q<rs0.length)(h0:vr (rAt rs q) c≠0){rs2:xj}(e2:∀i,i<rs0.length->rAt rs2 i=bgA rs c q c i) :
  (∀i,i<rs0.length->Big NN (rAt rs2 i)/\(rAt rs2 i).1.length=wd)/\(∀i,i<rs0.length->Big NN (clA rs2 c c i))/\∀ie:xj,ie.length=rs0.length->(∀i,i<rs0.length->rAt ie i=clA rs2 c c i)->Gs rs0 wd N (c+1) ie:=by
 have ib:Rw.sw c q c=q:=ZY rfl;obtain⟨b1,b2,b3,b4⟩:=air (g.row q df).1 h0;have ec:rAt rs2 c=bgP (rAt rs q) c:=by rw[e2 c hc];exact ZY rfl
 have ei:∀i,i<rs0.length->i≠c->rAt rs2 i=rAt rs (Rw.sw c q i):=λi hi ne=>by rw[e2 i hi];exact ZZ ne
 have cy:∀i,i<rs0.length->0<(rAt rs2 i).2/\(rAt rs2 i).1.length=wd/\(gcL (rAt rs2 i).1 (rAt rs2 i).2=1\/Big N (rAt rs2 i)):=λi hi=>by
  by_cases e:i=c
  .rw[e,ec];refine⟨b1,by rw[b2];exact(g.row q df).2.1,b3.elim .inl λz=>?_⟩;rw[z];exact(g.row q df).2.2
  .rw[ei i hi e];exact g.row _ (Yw hc df hi)
 have cl:=λi(hi:i<rs0.length)=>ai1 (rs:=rs2) (p:=c) (k:=c) (i:=i) (cy i hi).1 (cy c hc).1 (by rw[(cy i hi).2.1,(cy c hc).2.1]);have clw:∀i,i<rs0.length->(clA rs2 c c i).1.length=wd:=λi hi=>by
  unfold clA;split
  .exact(cy i hi).2.1
  .rw[lg];show(List.zipWith _ (rAt rs2 i).1 (rAt rs2 c).1).length=wd;rw[TU,(cy i hi).2.1,(cy c hc).2.1,VU]
 have clg:∀i,i<rs0.length->gcL (clA rs2 c c i).1 (clA rs2 c c i).2=1\/Big N (clA rs2 c c i):=λi hi=>(cl i hi).2.1.elim .inl λz=>by rw[z];exact(cy i hi).2.2
 have Vc:∀j,vr (clA rs2 c c c) j*vr (rAt rs q) c=vr (rAt rs q) j:=λj=>by
  rw[(cl c hc).2.2 j,ZY rfl,ec];exact b4 j
 have Vi:∀i,i<rs0.length->i≠c->∀j,vr (clA rs2 c c i) j=vr (rAt rs (Rw.sw c q i)) j-vr (rAt rs (Rw.sw c q i)) c*vr (clA rs2 c c c) j:=λi hi ne j=>by
  rw[(cl i hi).2.2 j,(cl c hc).2.2 j,ZZ ne,ZY rfl,ei i hi ne]
 have dP:∃pv s,gO (aT rs0) (aB rs0) rs0.length wd (λi j=>vr (clA rs2 c c i) j) (c+1) pv s:=by
  obtain⟨pv,s,st⟩:=g.st;have s1:=st.swap hq df (R':=λi j=>vr (rAt rs (Rw.sw c q i)) j) λi j _ _=>rfl;exact⟨_,_,s1.pivot hc (λi hi=>(h.big i hi).1.pos) cw (by show vr (rAt rs (Rw.sw c q c)) c≠0;rwa[ib]) (R':=λi j=>vr (clA rs2 c c i) j) (λj _=>by show vr (clA rs2 c c c) j*vr (rAt rs (Rw.sw c q c)) c=vr (rAt rs (Rw.sw c q c)) j;rw[ib];exact Vc j) λi j hi ne _=>Vi i hi ne j⟩
 have p6:∀i,i<rs0.length->Big NN (clA rs2 c c i):=λi hi=>h.sbig dP hi (cl i hi).1 (clw i hi) (clg i hi) λ_ _=>rfl;refine⟨λi hi=>⟨?_,(cy i hi).2.1⟩,p6,λie l3 e3=>⟨l3,λi hi=>by rw[e3 i hi];exact⟨(cl i hi).1,clw i hi,clg i hi⟩,?_,λi l hi hl=>?_,λx hx=>g.ker x λi hi=>?_⟩⟩
 .by_cases e:i=c
  .rw[e];refine h.sbig dP hc (cy c hc).1 (cy c hc).2.1 (cy c hc).2.2 λj _=>?_;show _=vr (clA rs2 c c c) j;rw[(cl c hc).2.2 j,ZY rfl]
  .rw[ei i hi e];exact g.big h (Yw hc df hi)
 .obtain⟨pv,s,st⟩:=dP;exact⟨pv,s,st.congr λi j hi=>by rw[e3 i hi]⟩
 .rw[e3 i hi];have v0:l<c->vr (clA rs2 c c c) l=0:=λhl=>by
   have:=Vc l;rw[g.unit q l df hl,ZZ wo]at this
   grind
  have v1:vr (clA rs2 c c c) c=1:=by
   have:=Vc c
   grind
  by_cases e:i=c
  .subst e;by_cases z:l<i
   .rw[v0 z,ZZ (VV z)]
   .rw[show l=i by lia,v1,ZY rfl]
  .rw[Vi i hi e l];by_cases z:l<c
   .rw[v0 z,g.unit _ l (Yw hc df hi) z];have:(Rw.sw c q i=l)=(i=l):=by
     unfold Rw.sw;rw[ZZ e];split
     .exact propext ⟨λ_=>by lia,λ_=>by lia⟩
     .rfl
    simp only[this]
    grind
   .rw[show l=c by lia,v1,ZZ e]
    grind
 .have o0:=hx c hc;rw[e3 c hc]at o0;by_cases e:i=q
  .rw[e,cu (g:=λj=>vr (rAt rs q) c*(vr (clA rs2 c c c) j*x j)) λj _=>by rw[<- Vc j];grind,jd,o0]
   grind
  .have hs:=Yw hc df hi;have ne:Rw.sw c q i≠c:=λz=>by
    have:=agw c q i;rw[z,ib]at this;exact e this.symm
   have hi0:=hx _ hs;rw[e3 _ hs]at hi0;rw[cu (g:=λj=>vr (clA rs2 c c (Rw.sw c q i)) j*x j+vr (rAt rs i) c*(vr (clA rs2 c c c) j*x j)) λj _=>by rw[Vi _ hs ne,agw];grind,jx,jd,o0,hi0]
   grind
def Gs.found(g:Gs rs0 wd N c rs)(hc:c<rs0.length)(cw:c<wd)(inj:∀x:Nat->Rat,(∀j,rs0.length<=j->x j=0)->(∀i,i<rs0.length->sg (λj=>vr (rAt rs0 i) j*x j) wd=0)->∀j,j<rs0.length->x j=0):¬∀i,c<=i->i<rs0.length->vr (rAt rs i) c=0:=λhz=>by
 have:=inj (λj=>if j<c then -(vr (rAt rs j) c)else if j=c then 1 else 0) (λj hj=>by rw[ZZ wo,ZZ wo]) (g.ker _ λi hi=>?_) c hc
 .rw[ZZ (X2 _),ZY rfl]at this;exact absurd this wp
 .rw[cu (g:=λj=>(if j=i then 1 else 0)*(if j<c then -(vr (rAt rs j) c)else 0)+(if j=c then 1 else 0)*vr (rAt rs i) c) λj hj=>?_,jx,j4 (v:=λj=>if j<c then -(vr (rAt rs j) c)else 0),j4 (v:=λ_=>vr (rAt rs i) c),ZY cw]
  .by_cases e:i<c
   .rw[ZY (Th e cw),ZY e]
    grind
   .rw[hz i (Up e) hi];rw[ZZ e]
    grind
  .by_cases a:j<c
   .rw[ZY a,ZY a,g.unit i j hi a,ZZ (show j≠c by exact aQ a)];by_cases b:i=j
    .rw[ZY b,ZY b.symm];grind
    .rw[ZZ b,ZZ (Ne.symm b)];grind
   .rw[ZZ a,ZZ a];by_cases b:j=c
    .rw[ZY b,b];grind
    .rw[ZZ b];grind
def Gs.answer(g:Gs rs0 (rs0.length+1) N rs0.length rs)(hi:i<rs0.length):sg (λj=>vr (rAt rs0 i) j*vr (rAt rs j) rs0.length) rs0.length=vr (rAt rs0 i) rs0.length:=by
 have:=g.ker (λj=>if j<rs0.length then vr (rAt rs j) rs0.length else -1) (λi hi=>?_) i hi
 .show _=_;rw[show sg (λj=>vr (rAt rs0 i) j*(if j<rs0.length then vr (rAt rs j) rs0.length else -1)) (rs0.length+1)=sg (λj=>vr (rAt rs0 i) j*(if j<rs0.length then vr (rAt rs j) rs0.length else -1)) rs0.length+vr (rAt rs0 i) rs0.length*(if rs0.length<rs0.length then vr (rAt rs rs0.length) rs0.length else -1)from rfl,ZZ (X2 _),cu (g:=λj=>vr (rAt rs0 i) j*vr (rAt rs j) rs0.length) λj hj=>by rw[ZY hj]]at this
  grind
 .rw[show sg (λj=>vr (rAt rs i) j*(if j<rs0.length then vr (rAt rs j) rs0.length else -1)) (rs0.length+1)=sg (λj=>vr (rAt rs i) j*(if j<rs0.length then vr (rAt rs j) rs0.length else -1)) rs0.length+vr (rAt rs i) rs0.length*(if rs0.length<rs0.length then vr (rAt rs rs0.length) rs0.length else -1)from rfl,ZZ (X2 _),cu (g:=λj=>(if j=i then 1 else 0)*vr (rAt rs j) rs0.length) λj hj=>by rw[ZY hj,g.unit i j hi hj];simp only[eq_comm],j4 (v:=λj=>vr (rAt rs j) rs0.length),ZY hi]
  grind
end
open Rw (vr jL jc oR gcL iH iK rN lX Big qd j9 nZ lg nQ gO sg jx jd cu jM j4)
abbrev m5(r:xo):Row:=(tops (jm 1 r) r,((jm 1 r:Nat):Int))
abbrev Ju(r:xo):T:=.lst (r.map frR)
def aez(r:xo):(m5 r).1.length=r.length:=ak _
def V4(r:xo)(j:Nat):vr (m5 r) j=r.getD j 0:=by
 unfold vr;have hB:=qI r TH;show(((tops (jm 1 r) r).getD j 0:Int):Rat)/(((jm 1 r:Nat):Int):Rat)=_;unfold tops;rw[au,au,aq];by_cases h:j<r.length
 .rw[aj h];show((r[j].num*((jm 1 r/r[j].den:Nat):Int):Int):Rat)/_=r[j];obtain⟨k,hk⟩:=(pX r (n:=1)).2 r[j] (aU h);have hd:=r[j].den_pos;rw[show jm 1 r/r[j].den=k by rw[hk];exact Nat.mul_div_cancel_left _ hd];have i6:k≠0:=λz=>by rw[z]at hk;lia
  rw[<- Q1,hk,Int.natCast_mul,Rat.divInt_mul_right wo];exact rd _
 .rw[aM (Nat.not_lt.mp h)];show((0:Int):Rat)/_=0
  grind
structure Sys(ac:xp)(N:Nat):Prop where
 wid:∀r∈ac,r.length=ac.length+1
 few:ac.length<=100
 lev:∀r∈ac,Big N (m5 r)
 num:∀r∈ac,∀c∈r,Bd c.num
 one:1<=N
 mb:(2*ac.length*N)^ac.length<=NN
 nn:N<=NN
 inj:∀x:Nat->Rat,(∀j,ac.length<=j->x j=0)->(∀r∈ac,sg (λj=>r.getD j 0*x j) (ac.length+1)=0)->∀j,j<ac.length->x j=0
def Rp(h:i<ac.length):rAt (ac.map m5) i=m5 ac[i]:=by
 have:=zN (rs:=ac.map m5) (i:=i) (by rwa[ak]);rw[aq,aj h]at this;injection this with this;exact this.symm
def Sys.b0(h:Sys ac N):B0 (ac.map m5) (ac.length+1) N:=⟨λi hi=>by
 rw[ak]at hi;rw[Rp hi];exact⟨h.lev _ (aU hi),by rw[aez];exact h.wid _ (aU hi)⟩,h.one,by rw[ak];exact h.mb,h.nn⟩
def Rws.mk'{rs:xj}(hr:∀i,i<rs.length->Big NN (rAt rs i)/\(rAt rs i).1.length=wd)(h1:rs.length<=100)(h2:wd<=1000):Rws rs wd:=by
 have:∀r∈rs,Big NN r/\r.1.length=wd:=λr hm=>by
  obtain⟨i,hi,e0⟩:=List.getElem_of_mem hm;have e:=zN hi;rw[aj hi,e0]at e;injection e with e;rw[e];exact hr i hi
 exact⟨λr hm=>(this r hm).1,λr hm=>(this r hm).2,h1,h2⟩
def Sys.rws{c:Nat}{rs:xj}(h:Sys ac N)(g:Gs (ac.map m5) (ac.length+1) N c rs):Rws rs (ac.length+1):=by
 have l:=g.len;have few:=h.few;rw[ak]at l;refine Rws.mk' (λi hi=>?_) (aL (WG l) few) wo;have e9:i<(ac.map m5).length:=by rw[g.len]at hi;exact hi
 exact⟨g.big h.b0 e9,(g.row i e9).2.1⟩
def ah1(hi:i<ac.length)(x:Nat->Rat):sg (λj=>vr (rAt (ac.map m5) i) j*x j) n=sg (λj=>ac[i].getD j 0*x j) n:=cu λj _=>by rw[Rp hi,V4]
def Sys.inj'(h:Sys ac N):∀x:Nat->Rat,(∀j,(ac.map m5).length<=j->x j=0)->(∀i,i<(ac.map m5).length->sg (λj=>vr (rAt (ac.map m5) i) j*x j) (ac.length+1)=0)->∀j,j<(ac.map m5).length->x j=0:=by
 rw[ak];intro x h1 h2;refine h.inj x h1 λr hr=>?_;obtain⟨i,hi,rfl⟩:=List.getElem_of_mem hr;rw[<- ah1 hi];exact h2 i hi
def M4(m:Nat)(y:Nat->Rat):zn:=(List.range m).map λi=>.lst ((List.range (m+1)).map λj=>frR (if j<m then if i=j then 1 else 0 else y i))
def aiO{rs:xj}(h:Sys ac N)(g:Gs (ac.map m5) (ac.length+1) N ac.length rs):(rs.map λr=>T.lst ((List.range (ac.length+1)).map λk=>frR (vr r k)))=M4 ac.length λi=>vr (rAt rs i) ac.length:=by
 have l:=g.len;rw[ak]at l;unfold M4;refine UV (by rw[ak,ak,WP,l]) λi h1 h2=>?_;rw[ak]at h1;rw[VZ,VZ,UK];have e:=zN h1;rw[aj h1]at e;injection e with e;rw[e]
 congr 1
 refine UT λj hj=>?_;have hj:=List.mem_range.mp hj;by_cases c:j<ac.length
 .rw[ZY c,g.unit i j (by rw[ak];exact aR h1 (WG l)) c]
 .rw[ZZ c,show j=ac.length by lia]
def aiE{rs:xj}(g:Gs (ac.map m5) (ac.length+1) N ac.length rs):∀r∈ac,sg (λj=>r.getD j 0*vr (rAt rs j) ac.length) ac.length=r.getD ac.length 0:=λr hr=>by
 obtain⟨i,hi,rfl⟩:=List.getElem_of_mem hr;have l:(ac.map m5).length=ac.length:=ak _;have:=Gs.answer (rs0:=ac.map m5) (N:=N) (rs:=rs) (by rwa[l]) (i:=i) (by rwa[l]);rw[l,Rp hi,V4]at this;rw[<- this];exact cu λj _=>by rw[V4]
def JX:ST:=λts R=>∃(ac:xp)(N:Nat),ts=[.lst (ac.map Ju),.int ac.length]/\Sys ac N/\∀(ss:zn)(y:Nat->Rat),(∀r∈ac,sg (λj=>r.getD j 0*y j) ac.length=r.getD ac.length 0)->(∀i,i<ac.length->FnB ((2*ac.length*N)^ac.length) (y i))->R (.fz (.tup [.lst ss,.lst (M4 ac.length y)]))
def Wo(T:Tx D):gT 7 Aw qJ JX:=ya T.aam λF=>by
 refine F.okT Jy (λhr _=>bF (aiv (bG zB) FP FP ["row"] (cj wn) (eF (i:=0)) cA (bI (adK T) (bx wn bA)) (jU (i:=2) Jy.nd rfl (Or.inl rfl)))
  (bF (iu 3 (cF bA))
  (bF (bQ 4 bC)
  (bF (dU (dW T.fQ (bx we bA)) (bY (n:=99) 5)
  (bF (bQ 6 (Py 2 (bI (Mt T) (bx wa (bx wE (bx (qv 5) bA))))))
  (bH (cC (b_ Hq (qv 6) fY)
  (bF (Kq 2 3 (Ry T) hr.md (by rfl) (bx wE (bx (qv 6) (bx (qv 5) bA))))
  (bF (Kq 2 3 (Hj T) hr.md (by rfl) (bx wE (bx (qv 5) bA)))
  (bH (acC 4 adh bC))))
  bR))))
  (bH (Jh 3 (Jh 2 (bO (dN (bx wP (bx (bI (Gu T) (bx wa bA)) bA))))))))))) ?_
 rintro _ R ⟨ac,N,rfl,h,ok⟩;have lm:(ac.map Ju).length=ac.length:=ak _;have ll:(ac.map m5).length=ac.length:=ak _;have few:=h.few;have b0:=h.b0;have e0:(ac.map λr=>rwT (m5 r))=(ac.map m5).map rwT:=by rw[WS];rfl
 refine⟨by rw[lm];exact aL few wp,comp_map Ju (λr=>rwT (m5 r)) ac (λr hr N' M hN=>⟨r,rfl,by rw[h.wid r hr];lia,h.num r hr,bdN (aL (h.lev r hr).bot h.nn),hN⟩) ?_⟩;rw[e0];refine⟨⟨by lia,by lia⟩,mW (λc o=>∃rs ss x y,o=[.fz (.lst (ac.map Ju)),.fz (.int ac.length),.l1 (rs.map rwT),.l1 ss,.fz (.int (c:Nat)),x,y]/\Gs (ac.map m5) (ac.length+1) N c rs/\ss.length<=102*c) ⟨_,[],_,_,rfl,b0.zero,aG _⟩ ?_ ?_⟩
 .rintro c _ hc ⟨rs,ss,x,y,rfl,g,sl⟩;have hc:c<ac.length:=by lia
  have dk:c<(ac.map m5).length:=by lia
  have l:=g.len;have hR:=h.rws g;have big:(20000:Nat)<sizeLine:=by decide
  refine⟨rs,_,c,c,rfl,hR,by lia,by exact WV _ hc,λq h1 h2 h3=>⟨trivial,rs,ss,_,c,q,c,rfl,rfl,hR,by exact Y3 h1 h2,h2,by exact WV _ hc,h3,by lia,λrs2 ss2 l2 e2 s2=>?_⟩,λz=>(g.found dk (WV _ hc) h.inj' λi a b=>z i a wo).elim⟩;obtain⟨n1,n2,n3⟩:=g.next b0 dk (WV _ hc) h1 (aR h2 (WG l)) h3 (rs2:=rs2) λi hi=>e2 i wo;exact⟨rs2,ss2,_,c,c,rfl,rfl,Rws.mk' (λi hi=>n1 i wo) wo wo,by lia,by exact WV _ hc,by lia,λi hi=>n2 i wo,λie ss3 l3 e3 s3=>⟨ie,ss3,.fz (.int c),.fz (.int q),rfl,n3 ie wo λi hi=>e3 i wo,by lia⟩⟩
 .rintro _ ⟨rs,ss,x,y,rfl,g,sl⟩;have g:Gs (ac.map m5) (ac.length+1) N ac.length rs:=g;have hR:=h.rws g;have l:=g.len;refine⟨rs,_,rfl,hR,?_⟩;have:=ok ss _ (aiE g) λi hi=>by
   have e9:i<(ac.map m5).length:=by lia
   have b:=g.bigM b0 e9;rw[ll]at b;exact FnB.vr b (by rw[(g.row i e9).2.1];exact X0 _)
  rw[<- aiO h g]at this;exact this
open Rw (vr jL jc oR gcL iH iK rN lX Big qd j9 nZ lg nQ gO sg jx jd cu jM j4)
def Gd:ST:=λts q=>∃(ac:xp)(n:Nat),ts=[.lst (ac.map Ju)]/\(∀r∈ac,r.length=n)/\(ac=[]->n=0)/\q (.fz (.int n))
def Uv(T:Tx D):gT 1 vO oK Gd:=ya T.Xu λF=>by
 refine F.okT Vb (λhr _=>bF (cC (b_ (yY hr.units) (bM cI T.dI WJ (bx wn bA)) bC)
  (bH (bO bC))
  bR)
  (bH (bO (bM cI T.dI WJ (bx (bJ wn bC) bA))))) ?_
 rintro _ R ⟨ac,n,rfl,h,h0,q⟩
 match ac,h,h0 with
 |[],h,h0=>rw[h0 rfl]at q;exact q
 |r::ac,h,h0 =>
  have e:(r.map frR).length=n:=by rw[ak];exact h r (aO ..)
  rw[<- e]at q;exact⟨_,rfl,q⟩
theorem T_(i:Nat):∀m,(List.range m).filter (λj=>decide (j=i))=if i<m then[i]else[]
 |0=>by rw[ZZ (WZ _)];rfl
 |m+1=>by
  rw[List.range_succ,List.filter_append,T_ i m];by_cases e:m=i
  .subst e;rw[ZZ (X2 _),ZY (X0 _)];simp
  .rw[List.filter_cons_of_neg (by simpa using e)];by_cases c:i<m
   .rw[ZY c,ZY (WV _ c)];rfl
   .rw[ZZ c,ZZ wo];rfl
def xu:ST:=λts q=>∃(ac:xp)(ax:xo),ts=[.lst (ac.map Ju),.lst (ax.map frR)]/\ac.length<=100/\(∀r∈ac,r.length<=100)/\q (.l1 ((List.zipWith (λr c=>r++[c]) ac ax).map Ju))
def La(T:Tx D):gT 1 p7 jt xu:=ya T.Ms λF=>by
 refine F.okT JK (λ_ _=>bH (bO (dG (bG ou) tD tD ["row","right"] (JL T.Uo (bx wn (bx we bA))) (eX (n:=2) (bN (eF (i:=0)) (bN (eF (i:=1)) c7))) cA (bL cD wn (cF (bx we bA)))))) ?_;rintro _ R ⟨ac,ax,rfl,h1,h2,q⟩;have zl:(ac.zip ax).length<=ac.length:=by rw[W1];exact Nat.min_le_left ..
 refine⟨by unfold Gw;rw[ak,W1,ak,ak];exact aL (aL (Nat.min_le_left ..) h1) wp,?_⟩;rw[zip_map];refine comp_map (λp=>.tup [Ju p.1,frR p.2]) (λp=>Ju (p.1++[p.2])) (ac.zip ax) (λp hp N M hN=>⟨rfl,?a,?b⟩) ?c
 case a =>
  have:=h2 _ (US hp).1;show(p.1.map frR).length+1<=sizeLine;rw[ak];exact aL (show _<=101 by exact Nat.succ_le_succ this) wp
 case b =>
  show N (.lst (p.1.map frR++[frR p.2]));rw[show(p.1.map frR++[frR p.2])=(p.1++[p.2]).map frR by rw[bf];rfl];exact hN
 case c =>
  rw[List.map_zipWith]at q;rwa[List.zip,List.map_zipWith]
def Dy:ST:=λts q=>∃(m:Nat)(y:Nat->Rat),ts=[.lst (M4 m y),.int m]/\m<=100/\q (.l1 ((List.range m).map λi:Nat=>.int i))
def Om(T:Tx D):gT 1 vm lV Dy:=ya T.T9 λF=>by
 refine F.okT BW (λhr _=>bF (iu 2 (cF bA))
  (bF (dU (cj wn) (bY (n:=99) 3)
  (bF (nU (bG q_) xO xO ["column"] (dW T.fQ (bx we bA)) (eF (i:=0)) (Bu (b_ (lN hr.units) (bJ wE wn) (lU T.kE T.i_))) wn (jU (i:=4) BW.nd rfl (Or.inl rfl)))
  (bH (cC (b_ Nr (bM cI T.dI WJ (bx wE bA)) bC)
  (bH (rR 2 (bJ wE bC)))
  bR))))
  (bH (ji 2)))) ?_
 rintro _ R ⟨m,y,rfl,h,q⟩;have sz:(1000:Nat)<=sizeLine:=by decide
 refine fL _ (List.range m) (λas o=>∃x z,o=[.fz (.lst (M4 m y)),.fz (.int m),.l1 (as.map λi:Nat=>.int i),x,z]) ⟨_,_,rfl⟩ ?_ ?_
 .rintro as i bs _ e ⟨x,z,rfl⟩;have hi:i<m:=List.mem_range.mp (e ▸ by simp);have la:as.length<m:=by have:=ZH List.length e;rw[WP,aA,List.length_cons]at this;lia
  refine⟨⟨by lia,by lia⟩,by rw[rng,ak,WP];exact aL (show _<=1000 by lia) sz,jo (λk:Nat=>.int (0+k)) (λj=>decide (j=i)) (λj=>.int (0+(j:Nat))) (List.range m) (λj hj N M h1 h2=>?_) ?_⟩
  .have hj:=List.mem_range.mp hj;show hName 0 (L2.T.int (0+((j:Nat):Int))) _ _;rw[show(0:Int)+((j:Nat):Int)=((j:Nat):Int)by lia]at h1 ⊢;refine⟨_,dB (VX (WV _ hj)),?_⟩;by_cases c:j=i
   .refine swT ?_ (h1 (Zs c));show xr true (_&&_)=true;rw[ZY hj,ZY c.symm]
    rfl
   .refine swF ?_ (h2 (Zp c));show xr true (_&&_)=false;rw[ZY hj,ZZ (Ne.symm c)]
    rfl
  .rw[T_,ZY hi];refine⟨_,rfl,by rw[ak];lia,.fz (.lst ((List.range (m+1)).map λj=>frR (if j<m then if i=j then 1 else 0 else y i))),.fz (.lst [.int (0+(i:Nat))]),?_⟩;rw[bf];show[_,_,OT.l1 (as.map _++[L2.T.int (0+(i:Nat))]),_,OT.fz (.lst [L2.T.int (0+(i:Nat))])]=[_,_,OT.l1 (as.map _++[L2.T.int (i:Nat)]),_,_];rw[show(0:Int)+((i:Nat):Int)=((i:Nat):Int)by exact Int.zero_add _]
 .rintro _ ⟨x,z,rfl⟩;exact q
def Lf:ST:=λts q=>∃(m:Nat)(y:Nat->Rat),ts=[.lst (M4 m y),.lst ((List.range m).map λi:Nat=>.int i),.int m]/\m<=100/\q (.fz .non)
def V2(T:Tx D):gT 1 Bh qP Lf:=ya T.aan λF=>by
 refine F.okT Xj (λhr _=>bF (dU (NK T.fQ (bx (bM cI T.dI WJ (bx we bA)) (bx (bM cI T.dI WJ (bx wn bA)) bA))) (bY (n:=99) 3)
  (bH (cC (b_ (lN hr.units) (bJ (bJ wn wP) wa) (lU T.kE T.i_))
  (bH (bO wP))
  bR)))
  (bH (bO fY))) ?_
 rintro _ R ⟨m,y,rfl,h,q⟩;have l1:((List.range m).map λi:Nat=>L2.T.int i).length=m:=by rw[ak,WP]
 have l2:(M4 m y).length=m:=by unfold M4;rw[ak,WP]
 refine⟨⟨by lia,by lia,by lia,by lia⟩,zP (λ_ _=>True) _ 0 trivial (λi t o e z=>?_) λo _=>q⟩;have:=(adB e).1;lia
def BR:ST:=λts q=>∃(m:Nat)(y:Nat->Rat),ts=[.lst (M4 m y),.lst ((List.range m).map λi:Nat=>.int i),.int m]/\m<=100/\q (.l1 ((List.range m).map λi=>frR (y i)))
def Qz(T:Tx D):gT 1 vp mC BR:=ya T.T8 λF=>by
 refine F.okT PJ (λ_ _=>bF (iu 3 (bL cR (cF (bx (lU T.kE T.i_) bA)) wa))
  (bF (dU (vA T.jD (bx we bA)) (eX (n:=2) (bN (bY (n:=99) 4) (bN (bY (n:=99) 5) c7)))
  (bH (sW 3 (bJ (bJ wn wE) wa) (qv 5))))
  (bH (ji 3)))) ?_
 rintro _ R ⟨m,y,rfl,h,q⟩;refine⟨⟨by lia,by lia,by show 1*_<=_;exact aL (show _<=100 by lia) wp⟩,λz ez=>?_⟩;have ez:z=(List.range m).map λi=>if i<0 then frR (y i)else frR 0:=by
  rw[ez,Zzt];refine UV (by rw[aN,ak,WP];rfl) λn h1 h2=>?_;rw[List.getElem_replicate,VZ,ZZ (WZ _)]
  rfl
 subst ez;refine zH (λi:Nat=>.int i) (List.range m) (λk o=>∃x z,o=[.fz (.lst (M4 m y)),.fz (.lst ((List.range m).map λi:Nat=>.int i)),.fz (.int m),.l1 ((List.range m).map λi=>if i<k then frR (y i)else frR 0),x,z]) ⟨_,_,rfl⟩ ?_ ?_
 .rintro k i _ e ⟨x,z,rfl⟩;have hk:k<m:=by have:=(ao.mp e).1;rwa[WP]at this
  rw[VX hk]at e;cases e;refine⟨rfl,_,dB (VX hk),_,dB (VX (X0 m)),k,xq (by rwa[ak,WP]),.fz (.int k),.fz (.int k),?_⟩;have:((List.range m).map λi=>if i<k then frR (y i)else frR 0).set k (frR (if m<m then if k=m then 1 else 0 else y k))=(List.range m).map λi=>if i<k+1 then frR (y i)else frR 0:=by
   rw[ZZ (X2 _)];refine UV (by rw[WH,ak,ak]) λn h1 h2=>?_;rw[Q2,VZ,VZ,UK];by_cases c:k=n
   .rw[ZY c,ZY wo,c]
   .rw[ZZ c];by_cases d:n<k
    .rw[ZY d,ZY (WV _ d)]
    .rw[ZZ d,ZZ wo]
  rw[<- this]
  rfl
 .rintro _ ⟨x,z,rfl⟩;have:((List.range m).map λi=>if i<(List.range m).length then frR (y i)else frR 0)=(List.range m).map λi=>frR (y i):=UT λi hi=>by rw[WP,ZY (List.mem_range.mp hi)]
  rw[<- this]at q;exact q
open Rw (vr jL jc oR gcL iH iK rN lX Big qd j9 nZ lg nQ gO sg jx jd cu jM j4)
abbrev Zy(ac:xp)(ax:xo):xp:=List.zipWith (λr c=>r++[c]) ac ax
def v7:ST:=λts R=>∃(ac:xp)(ax:xo)(N:Nat),ts=[.lst (ac.map Ju),.lst (ax.map frR)]/\ax.length=ac.length/\(∀r∈ac,r.length=ac.length)/\Sys (Zy ac ax) N/\∀y:Nat->Rat,(∀r∈Zy ac ax,sg (λj=>r.getD j 0*y j) ac.length=r.getD ac.length 0)->(∀i,i<ac.length->FnB ((2*ac.length*N)^ac.length) (y i))->R (.l1 ((List.range ac.length).map λi=>frR (y i)))
def Jz(T:Tx D):gT 8 qG jH v7:=ya T.M5 λF=>by
 refine F.okT Kv (λ_ _=>bF (bQ 2 (bI (Uv T) (bx wn bA)))
  (bF (bQ 3 (bJ (bI (Wo T) (bx (bI (La T) (bx wn (bx we bA))) (bx wa bA))) bC))
  (bF (bQ 4 (bI (Om T) (bx wP (bx wa bA))))
  (bF (cC (QW.qt (kJ (b_ Cg (bM cI T.dI WJ (bx wE bA)) wa) (iC (b_ Hq (bI (V2 T) (bx wP (bx wE (bx wa bA)))) fY))))
  (bH (bO fY))
  bR)
  (bH (bO (bI (Qz T) (bx wP (bx wE (bx wa bA)))))))))) ?_
 rintro _ R ⟨ac,ax,N,rfl,hl,hw,h,ok⟩;have la:(Zy ac ax).length=ac.length:=by rw[TU,hl,VU]
 have few:=h.few;rw[la]at few;refine⟨ac,ac.length,rfl,hw,λz=>by rw[z];rfl,ac,ax,rfl,few,λr hr=>by rw[hw r hr];exact few,Zy ac ax,N,?_,h,λss y h1 h2=>?_⟩
 .rw[la];rfl
 .rw[la]at h1 h2 ⊢;have lr:((List.range ac.length).map λi:Nat=>L2.T.int i).length=ac.length:=by rw[ak,WP]
  exact⟨ac.length,y,rfl,few,swF (Zp (by show ¬((((List.range ac.length).map λi:Nat=>L2.T.int i).length:Nat):Int)<_;lia)) ⟨ac.length,y,rfl,few,ac.length,y,rfl,few,ok y h1 h2⟩⟩
open Rw (sg)
def yT(f:Nat->Nat->Rat)(m:Nat):wq:=(List.range m).map λi=>(List.range m).map λj=>frR (f i j)
def tW:zh->Nat->Rat
 |[],_=>0
 |w::ws,j=>(if w.1=j then w.2 else 0)+tW ws j
def ug:xN->zh
 |none=>[]
 |some o=>o.ways
structure WyB(s:Rat)(m:Nat)(ws:zh):Prop where
 nd:(ws.map (·.1)).Nodup
 few:ws.length<=1000
 lt:∀w∈ws,w.1<m
 bq:∀w∈ws,Bq w.2/\Bd ((s.den:Int)*w.2.den)/\Bq (s*w.2)
def iy(s:Rat)(cs:xf)(i j:Nat):Rat:=(if j=i then 1 else 0)-s*tW (ug (cs.getD i none)) j
def Dh:ST:=λts q=>∃(s:Rat)(cs:xf),ts=[frR s,.lst (cs.map opT)]/\cs.length<=100/\Bq s/\(∀o∈cs,WyB s cs.length (ug o))/\q (.l2 (yT (iy s cs) cs.length))
def aa7(f:Nat->Nat->Rat)(m:Nat):(yT f m).length=m:=by unfold yT;rw[ak,WP]
def Y5{f:Nat->Nat->Rat}(h:i<m):(yT f m)[i]?=some ((List.range m).map λj=>frR (f i j)):=by
 unfold yT;rw[aq,VX h];rfl
def uZ{f g:Nat->Nat->Rat}(h:∀i j,i<m->j<m->f i j=g i j):yT f m=yT g m:=UT λi hi=>UT λj hj=>by rw[h i j (List.mem_range.mp hi) (List.mem_range.mp hj)]
def abJ{f g:Nat->Nat->Rat}{v:Rat}(h:∀a b,a<m->b<m->g a b=if a=i/\b=k then v else f a b):(yT f m).set i (((List.range m).map λj=>frR (f i j)).set k (frR v))=yT g m:=by
 unfold yT;refine UV (by rw[WH,ak,ak]) λa h1 h2=>?_;have ha:a<m:=by rw[ak,WP]at h2;exact h2
 rw[Q2];by_cases e:i=a
 .rw[ZY e,VZ,UK];refine UV (by rw[WH,ak,ak]) λb h3 h4=>?_;have hb:b<m:=by rw[ak,WP]at h4;exact h4
  rw[Q2,VZ,VZ,UK,h a b ha hb];by_cases c:k=b
  .rw[ZY c,ZY ⟨e.symm,c.symm⟩]
  .rw[ZZ c,ZZ λz=>c z.2.symm,e]
 .rw[ZZ e,VZ,VZ,UK];refine UT λb hb=>?_;rw[h a b ha (List.mem_range.mp hb),ZZ λz=>e z.1.symm]
def afk{f:Nat->Nat->Rat}(h:i<m):ixT (yT f m) ((i:Nat):Int)=some ((List.range m).map λj=>frR (f i j)):=by
 show nth (yT f m) i=_;rw[sX,Y5 h]
def acX(as:zh)(w:Nat×Rat)(j:Nat):tW (as++[w]) j=tW as j+if w.1=j then w.2 else 0:=by
 induction as with
 |nil=>show(_+(0:Rat))=0+_;grind
 |cons a as ih=>show _+tW (as++[w]) j=(_+tW as j)+_;rw[ih];grind
def Z0(h:j∉ws.map (·.1)):tW ws j=0:=by
 induction ws with
 |nil=>rfl
 |cons a as ih =>
  show(if a.1=j then a.2 else 0)+tW as j=0;rw[ih λz=>h (aJ _ z),ZZ λz=>h (by rw[<- z];exact aO ..)]
  grind
def uo(s:Rat)(cs:xf)(n:Nat)(as:zh)(i j:Nat):Rat:=if i<n then iy s cs i j else if i=n then(if j=i then 1 else 0)-s*tW as j else if j=i then 1 else 0
def aeg(s:Rat)(cs:xf)(n i j:Nat):uo s cs n [] i j=if i<n then iy s cs i j else if j=i then 1 else 0:=by
 unfold uo;split
 .rfl
 .split
  .show _-s*0=_;grind
  .rfl
def ae5{cs:xf}(i j:Nat):uo s cs n (ug (cs.getD n none)) i j=if i<n+1 then iy s cs i j else if j=i then 1 else 0:=by
 unfold uo;by_cases a:i<n
 .rw[ZY a,ZY (show i<n+1 by exact WV _ a)]
 .by_cases b:i=n
  .subst b;rw[ZZ a,ZY rfl,ZY (show i<i+1 by exact X0 _)]
   rfl
  .rw[ZZ a,ZZ b,ZZ (show ¬i<n+1 by lia)]
def Wh(s:Rat)(cs:xf)(n:Nat)(as:zh)(j:Nat):uo s cs n as n j=(if j=n then 1 else 0)-s*tW as j:=by unfold uo;rw[ZZ (X2 _),ZY rfl]
def ahR{cs:xf}(as bs:zh)(j:Nat)(h:i≠n):uo s cs n as i j=uo s cs n bs i j:=by unfold uo;rw[ZZ h,ZZ h]
def Ro(T:Tx D):gT 4 uR mQ Dh:=ya T.SN λ{f fd}F=>by
 refine F.okT RL (λ_ _=>bF (iu 2 (bI (K3 T) (bx (bM cI T.dI WJ (bx we bA)) bA)))
  (bF (dU (vA T.jD (bx we bA)) (eX (n:=2) (bN (bY (n:=99) 3) (bN (bY (n:=99) 4) c7)))
  (bH (cC (b_ Hq wE fY)
  (bH (dU (cj (bJ wE bC)) (eX (n:=2) (bN (bY (n:=99) 5) (bN (bY (n:=99) 6) c7)))
  (bH (af6 2 (bI (abf T) (bx (aeE 2 wP (qv 5)) (bx (bI (abZ T) (bx wn (bx (qv 6) bA))) bA))) wP (qv 5)))))
  bR)))
  (bH (ji 2)))) ?_
 rintro _ R ⟨s,cs,rfl,hm,hs,hw,q⟩;refine⟨cs.length,?_,hm,?_⟩
 .show[L2.T.int (((cs.map opT).length:Nat):Int)]=_;rw[ak]
 .have lc:∀x:Nat,((cs.map opT).length:Nat)=cs.length:=λ_=>ak _;refine zH opT cs (λn o=>∃x y z u,o=[.fz (frR s),.fz (.lst (cs.map opT)),.l2 (yT (λi j=>if i<n then iy s cs i j else if j=i then 1 else 0) cs.length),x,y,z,u]) ⟨.und,.und,.und,.und,?_⟩ ?_ ?_
  .show[_,_,OT.l2 (yT (λi j=>if j=i then 1 else 0) cs.length),_,_,_,_]=_;rw[uZ (f:=λi j=>if j=i then 1 else 0) (g:=λi j=>if i<0 then iy s cs i j else if j=i then 1 else 0) λi j _ _=>by rw[ZZ (WZ _)]]
  .rintro n oo _ e ⟨x,y,z,u,rfl⟩;have hn:n<cs.length:=(ao.mp e).1;have eg:cs.getD n none=oo:=by rw[au,e];rfl
   have hb:=hw oo (aC e);rw[show yT (λi j=>if i<n then iy s cs i j else if j=i then 1 else 0) cs.length=yT (uo s cs n []) cs.length from uZ λi j _ _=>(aeg s cs n i j).symm];rw[show yT (λi j=>if i<n+1 then iy s cs i j else if j=i then 1 else 0) cs.length=yT (uo s cs n (ug oo)) cs.length from uZ λi j _ _=>by rw[<- eg];exact(ae5 i j).symm];refine⟨rfl,?_⟩
   match oo,hb with
   |none,hb=>exact⟨_,_,_,_,rfl⟩
   |some o,hb =>
    refine fL nwT o.ways (λas ot=>∃z u,ot=[.fz (frR s),.fz (.lst (cs.map opT)),.l2 (yT (uo s cs n as) cs.length),.fz (.int n),.fz (ofT o),z,u]) ⟨_,_,rfl⟩ ?_ ?_
    .rintro as ⟨k,c⟩ bs _ e2 ⟨z,u,rfl⟩;have k4:(k,c)∈o.ways:=e2 ▸ by simp
     have hk:=hb.lt _ k4;obtain⟨c1,c2,c3⟩:=hb.bq _ k4;have nk:k∉as.map (·.1):=λz=>by
      have nd:=hb.nd;rw[show ug (some o)=o.ways from rfl,e2,bf]at nd;exact(List.nodup_append.mp nd).2.2 k z k wr rfl
     have cell:uo s cs n as n k=if k=n then 1 else 0:=by
      unfold uo;rw[ZZ (X2 _),ZY rfl,Z0 nk]
      grind
     have q1:Bq (uo s cs n as n k)/\Bd (((uo s cs n as n k).den:Int)*(s*c).den):=by
      rw[cell];split
      .exact⟨bq1,by show Bd (1*_);rw[TZ];exact c3.2⟩
      .exact⟨bq0,by show Bd (1*_);rw[TZ];exact c3.2⟩
     refine⟨rfl,_,(afk hn),_,dB (VX hk),s,c,rfl,hs,c1,c2,_,_,rfl,q1.1,c3,q1.2,n,_,xq (by rwa[aa7]),Y5 hn,k,xq (by rwa[ak,WP]),.fz (.int k),.fz (frR c),?_⟩;rw[<- abJ (f:=uo s cs n as) (g:=uo s cs n (as++[(k,c)])) (i:=n) (k:=k) (v:=uo s cs n as n k-s*c) λa b _ _=>?_]
     .rfl
     .by_cases a1:a=n
      .subst a1;rw[Wh,acX];by_cases b1:b=k
       .subst b1;rw[ZY (show a=a/\b=b from⟨rfl,rfl⟩),Wh,ZY (show(b,c).1=b from rfl)]
        grind
       .rw[ZZ (show ¬(a=a/\b=k)from λz=>b1 z.2),Wh,ZZ (show ¬(k,c).1=b from λz=>b1 z.symm)]
        grind
      .rw[ZZ (show ¬(a=n/\b=k)from λz=>a1 z.1)];exact ahR _ _ _ a1
    .rintro _ ⟨z,u,rfl⟩;exact⟨_,_,_,_,rfl⟩
  .rintro _ ⟨x,y,z,u,rfl⟩;rw[show yT (iy s cs) cs.length=yT (λi j=>if i<cs.length then iy s cs i j else if j=i then 1 else 0) cs.length from uZ λi j hi _=>by rw[ZY hi]]at q;exact q
def d7{i:Int}(h:i.natAbs<18446744073709551616):Bd i:=aR h (aL (by decide:18446744073709551616<=2^64) (XU wp wp))
abbrev scT(ns:xy):T:=.scr (ns.map T.int)
def O2:ST:=λts q=>∃(ns:xy)(k:Nat),ts=[scT ns,.int (k:Nat)]/\ns.length<=100/\q (.fz (.int (ns.getD k 0)))
def oh{β:Type}(h:α->β)(l:List α)(lo hi:xz):fG (l.map h) lo hi=(fG l lo hi).map h:=by unfold fG;rw[ak,List.map_take,List.map_drop]
def afO(l:List α)(k:Nat):fG l (some (k:Int)) (some ((k:Int)+1))=(l.drop k).take 1:=by
 unfold fG HT.sIx;show List.take ((if(k:Int)+1<0 then _ else min ((k:Int)+1).toNat l.length)-(if(k:Int)<0 then _ else min (k:Int).toNat l.length)) (List.drop (if(k:Int)<0 then _ else min (k:Int).toNat l.length) l)=_;rw[ZZ wo,ZZ (Int.not_lt_of_ge (X9 _))];by_cases h:k<l.length
 .rw[show min ((k:Int)+1).toNat l.length=k+1 by lia,show min (k:Int).toNat l.length=k by lia,show k+1-k=1 by exact TW _ _]
 .rw[show min (k:Int).toNat l.length=l.length by lia,List.drop_length,U2 (Up h),List.take_nil,List.take_nil]
def aeN(T:Tx D):gT 1 HJ zL O2:=ya T.ahI λF=>by
 refine F.okT aeu (λ_ _=>bH (bO (bJ (bL cD (fM wn (eU we) (eU (bL cD we bC))) (cF (bx bC bA))) bC))) ?_;rintro _ R ⟨ns,k,rfl,hl,q⟩;have e:fG (ns.map L2.T.int) (some (k:Int)) (some ((k:Int)+1))=((ns.drop k).take 1).map L2.T.int:=by rw[oh,afO]
 refine⟨?_,.int (ns.getD k 0),?_,q⟩
 .show(fG (ns.map L2.T.int) (some (k:Int)) (some ((k:Int)+1))).length+1<=sizeLine;rw[e,ak,aY];exact aL (show _<=2 by lia) wp
 .show ixT (fG (ns.map L2.T.int) (some (k:Int)) (some ((k:Int)+1))++[L2.T.int 0]) 0=_;rw[e];by_cases h:k<ns.length
  .rw[Qr h,List.take_succ_cons,au,aj h]
   rfl
  .rw[U2 (Up h),au,aM (Up h)]
   rfl
def strN(c:Int):Nat->Int×Int
 |0=>((c%1999999973+31)*765432101%1999999973,if c<0\/10^18<=c then(c.natAbs:Int)else 0)
 |k+1=>(((strN c k).1*((strN c k).1%65521+40487)+7*(k:Int)+5)%1999999973,(strN c k).2.fdiv 1000000)
def yQ(c:Int)(k:Nat):Int:=if 0<(strN c k).2 then(strN c k).2%1000000 else(strN c (k+1)).1
def Yp(c:Int):∀k,0<=(strN c k).1/\(strN c k).1<1999999973
 |0=>⟨Z3 _ wp,YY _ wp⟩
 |_+1=>⟨Z3 _ wp,YY _ wp⟩
def rG(c:Int)(k:Nat):0<=yQ c k/\yQ c k<2000000000:=by
 unfold yQ;have:=Yp c (k+1);split<;>lia
abbrev iY(c:Int)(n:Nat):xy:=(List.range n).map (yQ c)
def nj:ST:=λts q=>∃(c:Int)(n:Nat),ts=[.int c,.int (n:Nat)]/\n<=1000/\q (.l1 ((iY c n).map T.int))
def ZK(T:Tx D):gT 1 lM gC nj:=ya T.adt λF=>by
 refine F.okT aaJ (λ_ _=>bF (iu 2 (cF bA))
  (bF (bQ 3 (bL cB (bL cR (bL cD (bL cB wn bC) bC) bC) bC))
  (bF (bQ 4 bC)
  (bF (cC (QW.qt (kJ (b_ Cg wn bC) (iC (b_ agF wn (bL adM bC bC)))))
  (bH (bQ 4 (bM K4 T.Ve boot_abs (bx wn bA))))
  bR)
  (bF (dU (dW T.fQ (bx we bA)) (bY (n:=99) 5)
  (bF (bQ 3 (bL cB (bL cD (bL cD (bL cR wP (bL cD (bL cB wP bC) bC)) (bL cR bC (qv 5))) bC) bC))
  (bF (rR 2 (bJ (cF (bx wP (bx (bL cB wE bC) bA))) (lQ aiz T.abS boot_int (bx (qR Nr wE bC) bA))))
  (bH (bQ 4 (bL iD wE bC))))))
  (bH (ji 2))))))) ?_
 rintro _ R ⟨c,n,rfl,hn,q⟩;refine sq4 (λo=>o=[.fz (.int c),.fz (.int (n:Nat)),.l1 [],.fz (.int (strN c 0).1),.fz (.int (strN c 0).2),.und]) ?_ λY go=>?_
 .rintro _ rfl;refine⟨⟨by lia,by lia⟩,?_⟩;refine mW (λk o=>∃x,o=[.fz (.int c),.fz (.int (n:Nat)),.l1 ((iY c k).map L2.T.int),.fz (.int (strN c k).1),.fz (.int (strN c k).2),x]) ⟨_,rfl⟩ ?_ ?_
  .rintro k _ hk ⟨x,rfl⟩;have b:=Yp c k;refine⟨by decide,⟨d7 wo,d7 wo⟩,⟨d7 wp,d7 wo⟩,by decide,by decide,.int (yQ c k),?_,?_,⟨by decide,d7 wp⟩,.fz (.int k),?_⟩
   .by_cases h:0<(strN c k).2
    .rw[Zs h];unfold yQ;rw[ZY h]
     rfl
    .rw[Zp h];unfold yQ;rw[ZZ h]
     rfl
   .rw[ak,ak,WP];exact aR (show k<1001 by lia) wp
   .rw[show iY c (k+1)=iY c k++[yQ c k]by simp[iY,List.range_succ],bf]
    rfl
  .rintro _ ⟨x,rfl⟩;exact q
 .refine⟨by decide,⟨d7 wo,d7 wp⟩,by decide,?_⟩;refine swD (λh=>go _ ?_) λh=>⟨⟨by decide,by decide,by decide⟩,swD (λh'=>go _ ?_) λh'=>go _ ?_⟩
  .show _=[_,_,_,_,OT.fz (L2.T.int (if c<0\/10^18<=c then(c.natAbs:Int)else 0)),_];rw[ZY (.inl h)]
   rfl
  .show _=[_,_,_,_,OT.fz (L2.T.int (if c<0\/10^18<=c then(c.natAbs:Int)else 0)),_];rw[ZY (.inr h')]
   rfl
  .show _=[_,_,_,_,OT.fz (L2.T.int (if c<0\/10^18<=c then(c.natAbs:Int)else 0)),_];rw[ZZ (λz=>z.elim h h')]
   rfl
def WK:ST:=λts q=>∃a b:Int,ts=[.int a,.int b]/\q (.fz (.int (Int.gcd a b)))
def ah9(T:Tx D):gT 1 Ot Eh WK:=ya T.an0 λF=>by
 refine F.okT abM (λ_ _=>bF (RX (bM ZX T.acE boot_sorted (bx (cF (bx (bM K4 T.Ve boot_abs (bx wn bA)) (bx (bM K4 T.Ve boot_abs (bx we bA)) bA))) bA)) (aip (n:=2) rfl (bN (bY (n:=99) 2) (bN (bY (n:=99) 3) c7))))
  (bF (IK (b_ Nr wa bC)
  (bH (aiy 2 3 rfl abM.nd wp (bx (bL cB wP wa) (bx wa bA)))))
  (bH (bO wP)))) ?_
 rintro _ R ⟨a,b,rfl,q⟩;refine⟨[(a.natAbs:Int),(b.natAbs:Int)],rfl,by simp,λms pm so=>?_⟩;obtain⟨l,h,rfl,hg⟩ : ∃l h:Nat,ms=[(l:Int),(h:Int)]/\Nat.gcd l h=Int.gcd a b:=by
  have ln:=pm.length_eq
  match ms,ln with
  |[x,y],_ =>
   have hx:x=(a.natAbs:Int)\/x=(b.natAbs:Int):=by simpa using pm.subset (aO ..)
   rcases hx with rfl|rfl
   .have:=(List.perm_cons _).mp pm;have:=List.perm_singleton.mp this;cases this;exact⟨_,_,rfl,rfl⟩
   .have:=(List.perm_cons _).mp (pm.trans (List.Perm.swap _ _ _));have:=List.perm_singleton.mp this;cases this;exact⟨_,_,rfl,Nat.gcd_comm _ _⟩
 refine⟨rfl,λm o=>∃(l h:Nat),o=[.fz (.int a),.fz (.int b),.fz (.int l),.fz (.int h)]/\Nat.gcd l h=Int.gcd a b/\m=l,⟨_,_,_,rfl,hg,rfl⟩,?_⟩;rintro m _ ⟨l,h,rfl,hg,rfl⟩;refine swD (λhl=>?_) λhl=>?_
 .refine⟨λo=>o=[.fz (.int a),.fz (.int b),.fz (.int ((h%m:Nat):Int)),.fz (.int m)],?_,?_⟩
  .rintro _ rfl;exact⟨h%m,Nat.mod_lt _ wo,h%m,m,rfl,(Nat.gcd_rec m h).symm.trans hg,rfl⟩
  .exact⟨hl,by rw[Int.natCast_emod];rfl⟩
 .have:m=0:=by lia
  subst this;rw[Nat.gcd_zero_left]at hg;rw[<- hg]at q;exact q
def Fw:ST:=λts q=>∃a b:Int,ts=[.int a,.int b]/\0<b/\Bd b/\q (.fz (frR (Rat.divInt a b)))
def aah(T:Tx D):gT 2 zF pN Fw:=ya T.acN λF=>by
 refine F.okT aaC (λ_ _=>bF (bQ 2 (bI (ah9 T) (bx wn (bx we bA))))
  (bH (bO (dN (bx (bL iD wn wa) (bx (bL iD we wa) bA)))))) ?_
 rintro _ R ⟨a,b,rfl,hb,hd,q⟩;have nb:b≠0:=by exact WU hb
 have g0:=nW (a:=a) nb;have g1:=V_ (a:=a) nb hd;refine⟨_,_,rfl,⟨by exact WU g0,g1⟩,⟨by exact WU g0,g1⟩,?_⟩;have l:=yZ (t:=a) nb (c:=(Int.gcd a b:Nat)) (WU g0) wo (XZ g0 hb);rw[<- kZ l nb]at q;exact q
def Z4(c:Nat):Bool:=decide (97<=c)&&decide (c<=122)
def ltL:zD:=(Str.ofString "abcdefghijklmnopqrstuvwxyz").cps.toList
def ail:∀i:Fin 26,nth ltL i.val=some (97+i.val):=by decide +kernel
def abr{i:Int}(h0:0<=i)(h1:i<26):ixT ltL i=some (97+i.toNat):=by
 obtain⟨k,rfl⟩:=Zzu h0;exact ail ⟨k,by lia⟩
def V8(h:n<26):Z4 (97+n)=true:=by
 unfold Z4;rw[Zs (show 97<=97+n by exact X1 _ _),Zs (show 97+n<=122 by lia)];rfl
def pA(x:Str):x.cps.toList.length=x.length:=Array.length_toList
def Y_(x y:Str):(x++y).cps.toList=x.cps.toList++y.cps.toList:=by
 show(x.cps++y.cps).toList=_;rw[Array.toList_append]
def afs(x y:Str):(x++y).length=x.length+y.length:=by
 show(x.cps++y.cps).size=_;rw[Array.size_append];rfl
def abR : (GZ x none (some (n:Int))).cps.toList=x.cps.toList.take n:=by
 unfold GZ;have hl:x.cps.toList.length=x.length:=Array.length_toList;show((x.cps.toList.drop 0).take (HT.sIx x.length x.length (some (n:Int))-0))=_;rw[HT.uy,List.drop_zero,Nat.sub_zero,<- hl];rw[List.take_eq_take_iff];lia
def Vw : (GZ x (some (n:Int)) none).cps.toList=x.cps.toList.drop n:=by
 unfold GZ;have hl:x.cps.toList.length=x.length:=Array.length_toList;show((x.cps.toList.drop (HT.sIx x.length 0 (some (n:Int)))).take (x.length-HT.sIx x.length 0 (some (n:Int))))=_;rw[HT.uy,<- hl];by_cases h:n<=x.cps.toList.length
 .rw[Nat.min_eq_left h];exact QY (by rw[UZ];exact aG _)
 .rw[U2 (by lia:x.cps.toList.length<=n),U2 wo,List.take_nil]
def YM{ys:List α}{a b:Nat}(ab:a<=b)(h:b<=ys.length):fG ys (some (a:Int)) (some (b:Int))=(ys.drop a).take (b-a):=by
 unfold fG;rw[HT.uy,HT.uy,Nat.min_eq_left h,Nat.min_eq_left (aL ab h)]
def agG(h:x.cps.toList.all Z4=true)(lo:1<=x.length)(hi:x.length<=8):Wd x:=by
 unfold Wd Ym;rwa[pA,Zs lo,Zs hi]
structure Nms(ns:Θ)(n:Nat):Prop where
 len:ns.length=n
 nd:ns.Nodup
 wd:∀x∈ns,Wd x
def Zb{R:Nat->Str->Prop}(h:∀(i:Nat)x,ns[i]?=some x->R i x)(l:ns.length=n)(u:∀i j x,i<j->j<n->R i x->R j x->False):ns.Nodup:=by
 unfold List.Nodup;rw[List.pairwise_iff_getElem];intro i j hi hj ij e;exact u i j ns[i] ij (l ▸ hj) (h i _ (aj hi)) (by rw[e];exact h j _ (aj hj))
def Ny{g:HG}{c:RT}{e:RE}{q:zn->Prop}(R:Nat->Str->Prop)(n:Nat)(st:∀k,k<n->∀(N:T->Prop)(M:Prop),(∀x,R k x->N (.str x))->g (.int (k:Nat)) o λo'=>c o' λb=>sw b (e o' λy=>N (frz y)) M)(k:∀ns:Θ,ns.length=n->(∀(i:Nat)x,ns[i]?=some x->R i x)->q (ns.map T.str)):iU g c e o (rng 0 n) q:=by
 have go:∀(m j:Nat),j+m=n->∀(us:Θ),us.length=j->(∀(i:Nat)x,us[i]?=some x->R i x)->∀{q:zn->Prop},(∀ns:Θ,ns.length=n->(∀(i:Nat)x,ns[i]?=some x->R i x)->(∃vs,ns=us++vs/\q (vs.map T.str))\/¬∃vs,ns=us++vs)->iU g c e o ((List.range' j m).map λk:Nat=>.int ((0:Int)+k)) q:=by
  intro m
  induction m with
  |zero =>
   intro j ej us lu hu q hq;rcases hq us wo hu with⟨vs,e,z⟩|z
   .have:vs=[]:=by simpa using e
    rw[this]at z;exact z
   .exact absurd ⟨[],(List.append_nil us).symm⟩ z
  |succ m ih =>
   intro j ej us lu hu q hq;rw[List.range'_succ,List.map_cons];refine Zq ?_;rw[Int.zero_add];refine st j wo (λt=>iU g c e o ((List.range' (j+1) m).map λk:Nat=>.int ((0:Int)+k)) λus=>q (t::us)) (iU g c e o ((List.range' (j+1) m).map λk:Nat=>.int ((0:Int)+k)) q) λx hx=>?_;refine ih (j+1) wo (us++[x]) (by simp[lu]) (λi y ey=>?_) λns ln hn=>?_
   .by_cases hi:i<us.length
    .rw[aF hi]at ey;exact hu i y ey
    .have hl:=(ao.mp ey).1;rw[aA,List.length_singleton]at hl;have:i=us.length:=by lia
     subst this;rw[aD (aG _),TR]at ey;cases ey;exact lu ▸ hx
   .by_cases z:∃vs,ns=us++[x]++vs
    .obtain⟨vs,e⟩:=z;refine .inl ⟨vs,e,?_⟩;rcases hq ns ln hn with⟨ws,e',q'⟩|z
     .rw[e,Wp]at e';have:=List.append_cancel_left e';rw[<- this]at q';exact q'
     .exact absurd ⟨x::vs,by rw[e,Wp];rfl⟩ z
    .exact .inr z
 have:=go n 0 (UQ _) [] rfl (λi x z=>by cases z) (q:=q) λns ln hn=>.inl ⟨ns,rfl,k ns ln hn⟩;rw[<- List.range_eq_range']at this;exact this
def nm1(c:Nat)(i:Nat)(x:Str):Prop:=x.cps.toList=List.replicate (i+1) c
def nm2(b:zD)(at_:Nat)(x0 st:Int)(i:Nat)(x:Str):Prop:=x.cps.toList=b.take at_++(97+((x0+st*i)%26).toNat)::b.drop at_
def aek{b:zD}{at_:Nat}{x0 st:Int}(hs:st=1\/st=3\/st=5\/st=7\/st=9\/st=11)(ij:i<j)(hj:j<26)(h1:nm2 b at_ x0 st i x)(h2:nm2 b at_ x0 st j x):False:=by
 have e:=h1.symm.trans h2;have e:=List.append_cancel_left e;injection e with e _;rcases hs with rfl|rfl|rfl|rfl|rfl|rfl<;>omega
def ah0{c:Nat}(hc:Z4 c=true)(hi:i<8)(h:nm1 c i x):Wd x:=by
 have l:=pA x;rw[h,aN]at l;refine agG ?_ wo wo;rw[h,List.all_eq_true];intro d hd;rwa[(List.mem_replicate.mp hd).2]
def ahr{b:zD}{at_:Nat}{x0 st:Int}(hb:b.all Z4=true)(hl:b.length<=7)(h:nm2 b at_ x0 st i x):Wd x:=by
 have l:=pA x;rw[h,aA,List.length_cons,aY,UZ]at l;refine agG ?_ wo (by omega);rw[h,List.all_eq_true];rw[List.all_eq_true]at hb;intro d hd;rcases Y1.mp hd with hd|hd
 .exact hb d (List.mem_of_mem_take hd)
 .rcases YU.mp hd with rfl|hd
  .exact V8 wo
  .exact hb d (List.mem_of_mem_drop hd)
theorem Nm:∀(ys:Θ)(acc:Array Nat),(ys.foldl (λacc p=>acc++(Str.ofString "").cps++p.cps) acc).toList=acc.toList++(ys.map λy=>y.cps.toList).flatten
 |[],acc=>by simp
 |y::ys,acc=>by
  have e0:(Str.ofString "").cps = #[]:=by decide +kernel
  rw[List.foldl_cons,Nm ys,e0,Array.append_empty,Array.toList_append,List.map_cons,List.flatten_cons,Wp]
def glue(ys:Θ):(Txt.join (Str.ofString "") ys).cps.toList=(ys.map λy=>y.cps.toList).flatten:=by
 show((ys.drop 1).foldl (λacc p=>acc++(Str.ofString "").cps++p.cps) (ys.headD Str.empty).cps).toList=_;rw[Nm];cases ys with
 |nil=>rfl
 |cons y ys=>rfl
def ahi{c d:RT}{x y z:RS}(b:Bool)(h:∀q:Bool->Prop,q b->ahY c d o q)(hq:sw b (x { E with nx:=z E } o) (y { E with nx:=z E } o)):h_ (ai2 (ahY c d) x y) z E o:=h (λk=>sw k (x { E with nx:=z E } o) (y { E with nx:=z E } o)) hq
def Vd:ST:=λts q=>∃(c:Int)(n:Nat),ts=[.int c,.int (n:Nat)]/\n<=26/\∀ns:Θ,Nms ns n->q (.l1 (ns.map T.str))
def gZ{c:Int}(h:k<n:=by decide):ixT ((iY c n).map T.int) (k:Nat)=some (.int (yQ c k)):=by
 show nth ((iY c n).map T.int) k=_;rw[sX,aq,aq,VX h];rfl
def abu(T:Tx D):gT 2 JV vV Vd:=ya T.adZ λF=>by
 refine F.okT aaR (λhr _=>bF (bQ 2 lJ)
  (bF (bQ 3 (bI (ZK T) (bx wn (bx bC bA))))
  (bF (cC (QW.qt (WY (b_ (yY hr.units) (bL cB (bJ wP bC) bC) bC) (Qq (b_ JF we bC))))
  (bH (bO (dG (bG zJ) ux ux ["_law_k"] (dW T.fQ (bx we bA)) (eF (i:=0)) cA (bL cR (bJ wP (bL cB (bJ wE bC) bC)) (bL cD wn bC)))))
  bR)
  (bF (bQ 4 (aei lJ (bx (dG (bG zJ) ux ux ["_law_x"] (cj (fM wP (eU bC) (eU (bL cD bC (bL cB (bJ wP bC) bC))))) (eF (i:=0)) cA (bJ wP (bL cB wn bC))) bA)))
  (bF (bQ 5 (bL cB (bJ wP bC) bC))
  (bF (bQ 6 (bJ (cF (bx bC (bx bC (bx bC (bx bC (bx bC (bx bC bA))))))) (bL cB (bJ wP bC) bC)))
  (bH (bO (dG (bG zJ) ux ux ["_law_k"] (dW T.fQ (bx we bA)) (eF (i:=0)) cA (bL cD (bL cD (fM (qv 5) nR (eU (qv 6))) (bJ wP (bL cB (bL cD (bJ wE bC) (bL cR (qv 7) wn)) bC))) (fM (qv 5) (eU (qv 6)) nR))))))))))) ?_
 rintro _ R ⟨c,n,rfl,hn,q⟩;refine⟨c,11,rfl,by decide,?_⟩;have s0:=rG c 0;have s1:=rG c 1;have lL:(Str.ofString "abcdefghijklmnopqrstuvwxyz").length<=sizeLine:=aL (show _<=1000 by decide +kernel) wp;have rl:(rng 0 n).length<=sizeLine:=by rw[rng,ak,WP];exact aL hn wp
 dsimp only;refine ahi (decide (yQ c 0%3=1)&&decide ((n:Int)<=8)) (λq hq=>?_) ?_
 .refine⟨_,gZ (k:=0),by decide,?_⟩;refine swD (λh=>?_) λh=>?_
  .rw[Zs h,Bool.true_and]at hq;exact hq
  .rw[Zp h,Bool.false_and]at hq;exact hq
 .refine sw2 (λhb=>?_) λhb=>?_
  .simp only[JY,decide_eq_true_eq]at hb;refine⟨⟨by lia,by lia⟩,rl,Ny (nm1 (97+(yQ c 1%26).toNat)) n (λk hk N M hN=>?_) λns ln eM=>q ns ⟨ln,Zb eM ln λi j x ij hj h1 h2=>?_,λx hx=>?_⟩⟩
   .refine⟨_,gZ (k:=1),by decide,lL,_,abr (Z3 _ wp) (YY _ wp),_,rfl,by lia,by lia,λz hz=>hN z ?_⟩;rw[show((k:Int)+1).toNat=k+1 by lia]at hz;exact hz
   .have:=ZH List.length (h1.symm.trans h2);rw[aN,aN]at this;lia
   .obtain⟨i,hi⟩:=aV hx;have li:=(ao.mp hi).1;exact ah0 (V8 wo) wo (eM i x hi)
  .obtain⟨m,em,hm⟩ : ∃m:Nat,yQ c 1%8=m/\m<=7:=⟨(yQ c 1%8).toNat,by lia,by lia⟩;have ec:fG ((iY c 11).map L2.T.int) (some 2) (some (2+yQ c 1%8))=(((iY c 11).drop 2).take m).map L2.T.int:=by
    rw[em,oh];have:=YM (ys:=iY c 11) (a:=2) (b:=2+m) (X1 _ _) (by rw[ak,WP];lia);rw[show 2+m-2=m by exact TW _ _]at this;exact ZH (List.map L2.T.int) this
   have ml:(((iY c 11).drop 2).take m).length=m:=by rw[aY,UZ,ak,WP];lia
   refine⟨_,gZ (k:=1),by decide,?_⟩;dsimp only[frz];show(fG ((iY c 11).map L2.T.int) (some 2) (some (2+yQ c 1%8))).length<=sizeLine/\_;rw[ec];have c26:∀x∈((iY c 11).drop 2).take m,0<=x:=λx hx=>by
    obtain⟨k,_,rfl⟩:=YV.mp (List.mem_of_mem_drop (List.mem_of_mem_take hx));exact(rG c k).1
   generalize((iY c 11).drop 2).take m=us at ml c26 ⊢;have e0:(Str.ofString "").length=0:=by decide +kernel
   refine⟨by rw[ak,ml];exact aL hm wp,comp_map L2.T.int (λx=>.str ⟨#[97+(x%26).toNat]⟩) us (λx hx N M hN=>⟨by decide,lL,_,abr (Z3 _ wp) (YY _ wp),hN⟩) ⟨us.map λx=>⟨#[97+(x%26).toNat]⟩,by rw[WS];rfl,?_,?_⟩⟩
   .rw[e0,Nat.mul_zero,Nat.add_zero,WS,show((λx:Str=>x.length) ∘ λx:Int=>(⟨#[97+(x%26).toNat]⟩ : Str))=λ_=>1 from rfl,List.map_const',List.sum_replicate_nat];lia
   have bc:(Txt.join (Str.ofString "") (us.map λx=>(⟨#[97+(x%26).toNat]⟩ : Str))).cps.toList=us.map λx=>97+(x%26).toNat:=by
    rw[glue,WS]
    clear ml c26 ec
    induction us with
    |nil=>rfl
    |cons x us ih=>rw[List.map_cons,List.flatten_cons,ih];rfl
   have bl:(Txt.join (Str.ofString "") (us.map λx=>(⟨#[97+(x%26).toNat]⟩ : Str))).length<=7:=by rw[<- pA,bc,ak];exact aL (WG ml) hm
   have ba:(us.map λx=>97+(x%26).toNat).all Z4=true:=by
    rw[List.all_eq_true];intro d hd;obtain⟨x,hx,rfl⟩:=YV.mp hd;exact V8 wo
   rw[<- bc]at ba;generalize Txt.join (Str.ofString "") (us.map λx=>(⟨#[97+(x%26).toNat]⟩ : Str))=st at bl ba ⊢
   clear bc
   have s9:=rG c 9;have i4:=rG c 10;obtain⟨ap,eap,o1⟩ : ∃ap:Nat,yQ c 9%8=ap/\ap<=7:=⟨(yQ c 9%8).toNat,by lia,by lia⟩;obtain⟨sv,es,hs⟩ : ∃sv:Int,ixT [L2.T.int 1,L2.T.int 3,L2.T.int 5,L2.T.int 7,L2.T.int 9,L2.T.int 11] (yQ c 10%6)=some (.int sv)/\(sv=1\/sv=3\/sv=5\/sv=7\/sv=9\/sv=11):=by
    obtain e|e|e|e|e|e:yQ c 10%6=0\/yQ c 10%6=1\/yQ c 10%6=2\/yQ c 10%6=3\/yQ c 10%6=4\/yQ c 10%6=5:=by lia
    .exact⟨1,by rw[e];rfl,by decide⟩
    .exact⟨3,by rw[e];rfl,by decide⟩
    .exact⟨5,by rw[e];rfl,by decide⟩
    .exact⟨7,by rw[e];rfl,by decide⟩
    .exact⟨9,by rw[e];rfl,by decide⟩
    .exact⟨11,by rw[e];rfl,by decide⟩
   have z7:(16:Nat)<=sizeLine:=by decide
   refine⟨_,gZ (k:=9),by decide,?_⟩;dsimp only[frz];rw[eap];refine⟨_,gZ (k:=10),by decide,_,es,⟨by lia,by lia⟩,rl,Ny (nm2 st.cps.toList ap (yQ c 0) sv) n (λk hk N M hN=>?_) λns ln eM=>q ns ⟨ln,Zb eM ln λi j x ij hj h1 h2=>aek hs ij (aR hj hn) h1 h2,λx hx=>?_⟩⟩
   .have t1:(GZ st none (some (ap:Int))).length<=7:=by rw[<- pA,abR,aY,pA];lia
    have t2:(GZ st (some (ap:Int)) none).length<=7:=by rw[<- pA,Vw,UZ,pA];exact aL (Nat.sub_le _ _) bl
    have t3:∀d:Nat,({ cps:=#[d] } : Str).length=1:=λ_=>rfl;refine⟨by exact aL bl wp,_,gZ (k:=0),⟨d7 wo,d7 wo⟩,by decide,lL,_,abr (Z3 _ wp) (YY _ wp),by rw[t3];lia,by exact aL bl wp,by rw[afs,t3];lia,hN _ ?_⟩;unfold nm2;rw[Y_,Y_,abR,Vw,Wp];rfl
   .obtain⟨i,hi⟩:=aV hx;exact ahr ba (by rwa[pA]) (eM i x hi)
open Rw (sg jx jd cu jM j4 Big)
def dw(ws:zh)(x:Nat->Rat):Rat:=(ws.map λw=>w.2*x w.1).sum
def RZ(ws:zh):Rat:=(ws.map (·.2)).sum
theorem dY(w:Nat×Rat)(ws:zh)(x:Nat->Rat):dw (w::ws) x=w.2*x w.1+dw ws x:=rfl
theorem zK(w:Nat×Rat)(ws:zh):RZ (w::ws)=w.2+RZ ws:=rfl
theorem af8{M:Rat}{x:Nat->Rat} : ∀{ws:zh},(∀w∈ws,0<=w.2/\x w.1<=M)->dw ws x<=RZ ws*M
 |[],_=>by show(0:Rat)<=0*M;rw[Rat.zero_mul];exact VW
 |w::ws,h=>by
  rw[dY,zK];have:=af8 (ws:=ws) λv hv=>h v (aJ _ hv);obtain⟨a,b⟩:=h w (aO ..);have:=Rat.mul_le_mul_of_nonneg_left b a
  grind
theorem agD{m:Nat}{x:Nat->Rat} : ∀{ws:zh},(∀w∈ws,w.1<m)->sg (λj=>tW ws j*x j) m=dw ws x
 |[],_=>by
  show sg (λj=>0*x j) m=0;rw[cu (g:=λ_=>0) λj _=>Rat.zero_mul _,jM]
 |w::ws,h=>by
  rw[dY,<- agD (m:=m) (ws:=ws) λv hv=>h v (aJ _ hv)];rw[cu (g:=λj=>(if j=w.1 then 1 else 0)*(w.2*x j)+tW ws j*x j) λj _=>?_,jx,j4 (v:=λj=>w.2*x j),ZY (h w (aO ..))];show((if w.1=j then w.2 else 0)+tW ws j)*x j=_;by_cases e:w.1=j
  .rw[ZY e,ZY e.symm];grind
  .rw[ZZ e,ZZ (Ne.symm e)];grind
theorem aa3(x:Nat->Rat):∀{m:Nat},0<m->∃i,i<m/\∀j,j<m->x j<=x i
 |0,h=>absurd h (WZ _)
 |1,_=>⟨0,TH,λj hj=>by rw[show j=0 by exact Nat.eq_zero_of_le_zero (UY hj)];exact VW⟩
 |m+2,_=>by
  obtain⟨i,hi,h⟩:=aa3 x (m:=m+1) (Tk _);by_cases c:x i<=x (m+1)
  .refine⟨m+1,by exact X0 _,λj hj=>?_⟩;by_cases e:j=m+1
   .rw[e];exact VW
   .exact Rat.le_trans (h j (XX (UY hj) e)) c
  .refine⟨i,by exact Th hi (X0 _),λj hj=>?_⟩;by_cases e:j=m+1
   .rw[e];exact Rat.le_of_lt (Rat.not_le.mp c)
   .exact h j (XX (UY hj) e)
def adi{cs:xf}{x:Nat->Rat}(hi:i<cs.length)(h:∀w∈ug (cs.getD i none),w.1<cs.length):sg (λj=>iy s cs i j*x j) cs.length=x i-s*dw (ug (cs.getD i none)) x:=by
 rw[<- agD h,cu (g:=λj=>(if j=i then 1 else 0)*x j+(-s)*(tW (ug (cs.getD i none)) j*x j)) λj _=>by unfold iy;grind,jx,jd,j4 (v:=x),ZY hi]
 grind
theorem W0(x:Nat->Rat):∀ws:zh,dw ws (λj=>-(x j))=-(dw ws x)
 |[]=>by show(0:Rat)=-0;grind
 |w::ws=>by rw[dY,dY,W0 x ws];grind
theorem U5{x z:Nat->Rat} : ∀{ws:zh},(∀w∈ws,x w.1=z w.1)->dw ws x=dw ws z
 |[],_=>rfl
 |w::ws,h=>by rw[dY,dY,h w (aO ..),U5 λv hv=>h v (aJ _ hv)]
theorem abT(x z:Nat->Rat):∀ws:zh,dw ws (λj=>x j-z j)=dw ws x-dw ws z
 |[]=>by show(0:Rat)=0-0;grind
 |w::ws=>by rw[dY,dY,dY,abT x z ws];grind
def agy{off:zi}(e:pl[i]?=some d):(chO off pl).getD i none=d.bind λd=>(off.getD i [])[d]?:=by
 unfold chO;rw[au,aq,List.getElem?_zipIdx,e];simp
def ad3(s:Rat)(cs:xf):xp:=(List.range cs.length).map λi=>(List.range cs.length).map λj=>iy s cs i j
def aob(s:Rat)(cs:xf):(yT (iy s cs) cs.length).map T.lst=(ad3 s cs).map Ju:=by
 unfold yT ad3;rw[WS,WS];refine UT λi _=>?_;show T.lst _=T.lst (List.map frR _);rw[WS]
 rfl
def ahG{off:zi}(h:PlT off pl):(chO off pl).length=off.length:=by unfold chO;rw[ak,UP,h.len]
def afA{A Q:Nat}{r:xo}(hA:1<=A)(hQ:0<Q)(h:∀c∈r,c.den ∣ Q/\c.num.natAbs<=A*c.den):Big (A*Q) (m5 r):=by
 have hB:=qI r TH;have hd:jm 1 r ∣ Q:=Ar r (Nat.one_dvd _) λc hc=>(h c hc).1;have le:=UX hQ hd;refine⟨by show(0:Int)<(jm 1 r:Nat);lia,?_,λt ht=>?_⟩
 .show((jm 1 r:Nat):Int).natAbs<=A*Q;rw[XT];exact aL le (Zzx _ hA)
 .obtain⟨c,hc,rfl⟩:=YV.mp ht;rw[VT,XT];refine aL (Nat.mul_le_mul_right _ (h c hc).2) ?_;rw[Nat.mul_assoc,Nat.mul_div_cancel' ((pX r).2 c hc)];exact Nat.mul_le_mul_left _ le
def mtS(S:Nat->Bool)(d:zD):Bool:=d.any S
def jn:Bool->wf->(Nat->Bool)->Bool
 |false,ds,S=>ds.any (mtS S)
 |true,ds,S=>decide (0<ds.length)&&ds.all (mtS S)
def Hw : jn false ds S=true↔∃d∈ds,∃r∈d,S r=true:=by simp[jn,mtS,List.any_eq_true]
def Ou : jn true ds S=true↔0<ds.length/\∀d∈ds,∃r∈d,S r=true:=by simp[jn,mtS]
structure Lfp(e:Bool)(m:Nat)(mk:Nat->Bool)(ld:Nat->wf)(S:Nat->Bool):Prop where
 base:∀k,k<m->mk k=true->S k=true
 step:∀k,k<m->jn e (ld k) S=true->S k=true
 least:∀A:Nat->Bool,(∀k,k<m->mk k=true->A k=true)->(∀k,k<m->jn e (ld k) A=true->A k=true)->∀k,k<m->S k=true->A k=true
structure WyO(m:Nat)(o:bV):Prop where
 lt:∀w∈o.ways,w.1<m
 pos:∀w∈o.ways,0<w.2
 one:RZ o.ways=1
theorem agi{M:Rat}{x:Nat->Rat} : ∀{ws:zh},(∀w∈ws,0<w.2/\x w.1<=M)->(∃w∈ws,x w.1<M)->dw ws x<RZ ws*M
 |[],_,e=>by obtain⟨_,z,_⟩:=e;cases z
 |w::ws,h,e=>by
  rw[dY,zK];obtain⟨p,l⟩:=h w (aO ..);have hs:∀v∈ws,0<v.2/\x v.1<=M:=λv hv=>h v (aJ _ hv);have a:=af8 (ws:=ws) (M:=M) (x:=x) λv hv=>⟨Rat.le_of_lt (hs v hv).1,(hs v hv).2⟩;by_cases c:x w.1<M
  .have:=Rat.mul_lt_mul_of_pos_left c p
   grind
  .obtain⟨v,hv,lv⟩:=e;rcases YU.mp hv with rfl|hv
   .exact absurd lv c
   .have:=agi hs ⟨v,hv,lv⟩;have:=Rat.mul_le_mul_of_nonneg_left l (Rat.le_of_lt p)
    grind
section
variable{m:Nat}{o:bV}{x:Nat->Rat}{M:Rat}
def WyO.lt_(h:WyO m o)(hx:∀w∈o.ways,x w.1<=M)(e:∃w∈o.ways,x w.1<M):dw o.ways x<M:=by
 have:=agi (ws:=o.ways) (M:=M) (x:=x) (λv hv=>⟨h.pos v hv,hx v hv⟩) e;rw[h.one]at this
 grind
end
def ldC:xN->wf
 |none=>[]
 |some o=>[o.ways.map (·.1)]
def agK{c:xN}(h:jn false (ldC c) S=true):∃o,c=some o/\∃w∈o.ways,S w.1=true:=by
 obtain⟨d,hd,r,hr,hs⟩:=Hw.mp h;cases c with
 |none=>cases hd
 |some o =>
  cases YR.mp hd;obtain⟨w,hw,rfl⟩:=YV.mp hr;exact⟨o,rfl,w,hw,hs⟩
section
variable{m:Nat}{mk S:Nat->Bool}{c:Nat->xN}
def mp(lf:Lfp false m mk (λk=>ldC (c k)) S)(hw:∀k,k<m->∀o,c k=some o->WyO m o){d:Nat->Rat}(hs:∀k,k<m->mk k=false->S k=true->d k<=dw (ug (c k)) d)(hg:∀k,k<m->mk k=true->d k<=0)(hn:∀k,k<m->S k=false->d k<=0):∀k,k<m->d k<=0:=by
 intro k0 i6;obtain⟨i,hi,iE⟩:=aa3 d (m:=m) wo;refine Rat.le_trans (iE k0 i6) (Rat.not_lt.mp λpos=>?_);have cl:=lf.least (λk=>decide (d k≠d i)) (λk hk e=>Zs (λz=>by have:=hg k hk e;grind)) (λk hk e=>Zs λz=>?_)
 .cases s:S i with
  |true=>exact of_decide_eq_true (cl i hi s) rfl
  |false=>have:=hn i hi s;grind
 .obtain⟨o,ec,w,hwm,fS⟩:=agK e;have fS:d w.1≠d i:=of_decide_eq_true fS;have W:=hw k hk o ec;cases g:mk k with
  |true=>have:=hg k hk g;grind
  |false =>
   cases s:S k with
   |true =>
    have le:=hs k hk g s;rw[ec]at le;have le:d k<=dw o.ways d:=le;have lt:=W.lt_ (M:=d i) (x:=d) (λv hv=>iE _ (W.lt v hv)) ⟨w,hwm,by have:=iE _ (W.lt w hwm);grind⟩
    grind
   |false=>have:=hn k hk s;grind
structure BL(m:Nat)(mk:Nat->Bool)(c:Nat->xN)(S:Nat->Bool)(x:Nat->Rat):Prop where
 lf:Lfp false m mk (λk=>ldC (c k)) S
 goal:∀k,k<m->mk k=true->x k=1
 mean:∀k,k<m->mk k=false->S k=true->x k=dw (ug (c k)) x
 no:∀k,k<m->S k=false->x k=0
variable{x:Nat->Rat}
def BL.nn(h:BL m mk c S x)(hw:∀k,k<m->∀o,c k=some o->WyO m o):∀k,k<m->0<=x k:=λk hk=>by
 have:=mp h.lf hw (d:=λk=>-(x k)) (λk hk g s=>by rw[W0,<- h.mean k hk g s];exact VW) (λk hk g=>by rw[h.goal k hk g];decide) (λk hk s=>by rw[h.no k hk s];exact VW) k hk
 grind
theorem Hx:∀ws:zh,RZ ws=dw ws λ_=>1
 |[]=>rfl
 |w::ws=>by rw[zK,dY,Hx ws,Rat.mul_one]
def BL.le1(h:BL m mk c S x)(hw:∀k,k<m->∀o,c k=some o->WyO m o):∀k,k<m->x k<=1:=λk hk=>by
 have:=mp h.lf hw (d:=λk=>x k-1) (λk hk g s=>by
  rw[abT,<- Hx];have e:=h.mean k hk g s;cases ec:c k with
  |none =>
   rw[ec]at e;have e:x k=0:=e;show x k-1<=0-0;rw[e];grind
  |some o =>
   have W:=hw k hk o ec;rw[ec]at e;show x k-1<=dw o.ways x-RZ o.ways;rw[W.one,e];exact VW) (λk hk g=>by rw[h.goal k hk g];grind) (λk hk s=>by rw[h.no k hk s];grind) k hk
 grind
def aiQ(lf:Lfp false m mk (λk=>ldC (c k)) S)(hw:∀k,k<m->∀o,c k=some o->WyO m o)(hx:∀k,k<m->x k=if mk k=false/\S k=true then dw (ug (c k)) x else 0):∀k,k<m->x k=0:=λk hk=>by
 have a:=mp lf hw (d:=x) (λk hk g s=>by rw[hx k hk,ZY ⟨g,s⟩];exact VW) (λk hk g=>by rw[hx k hk,ZZ (by rw[g];exact λz=>Bool.noConfusion z.1)];exact VW) (λk hk s=>by rw[hx k hk,ZZ (by rw[s];exact λz=>Bool.noConfusion z.2)];exact VW) k hk;have b:=mp lf hw (d:=λk=>-(x k)) (λk hk g s=>by rw[W0,hx k hk,ZY ⟨g,s⟩];exact VW) (λk hk g=>by rw[hx k hk,ZZ (by rw[g];exact λz=>Bool.noConfusion z.1)];exact VW) (λk hk s=>by rw[hx k hk,ZZ (by rw[s];exact λz=>Bool.noConfusion z.2)];exact VW) k hk
 grind
end
abbrev blT(l:xk):L2.T:=.lst (l.map L2.T.bl)
abbrev inT(k:Nat):L2.T:=.int (k:Nat)
abbrev ntT(l:zD):L2.T:=.lst (l.map inT)
abbrev GQ(ds:wf):L2.T:=.lst (ds.map ntT)
def mkF(gs:zD)(k:Nat):Bool:=decide (k∈gs)
def mkL(m:Nat)(gs:zD):xk:=(List.range m).map (mkF gs)
def Oj(m:Nat)(gs:zD):(mkL m gs).length=m:=by unfold mkL;rw[ak,WP]
def YW{g:Nat} : (mkL m gs).set g true=mkL m (gs++[g]):=by
 unfold mkL mkF;refine UV (by rw[WH,ak,ak]) λk h1 h2=>?_;rw[Q2,VZ,UK,VZ,UK];by_cases e:g=k
 .rw[ZY e,e];exact(Zs wr).symm
 .rw[ZZ e];exact decide_eq_decide.mpr (by simp;intro z;exact absurd z.symm e)
def n_(D:Adr):ST:=λts q=>∃(s:Rat)(ns:Θ)(off:zi)(gs:zD),ts=[hlT D s ns off,ntT gs]/\Fb ns off/\(∀g∈gs,g<ns.length)/\q (.l1 ((mkL ns.length gs).map L2.T.bl))
def M7(T:Tx D):gT 3 fZ d_ (n_ D):=ya T.CP λF=>by
 refine F.okT zR (λ_ _=>bF (iu 2 (bL cR (cF (bx gW bA)) (pW wn T.g_ T.jP (QZ T) (KS:=jg))))
  (bF (dU (cj we) (bY (n:=99) 3)
  (bF (mJ (DQ wn T.g_ T.lD (Li T) (bx wP bA) (KS:=jg)))
  (bH (sW 2 gW wP))))
  (bH (ji 2)))) ?_
 rintro _ R ⟨s,ns,off,gs,rfl,h,hg,q⟩;have few:=h.few;refine⟨⟨rfl,rfl⟩,s,ns,off,rfl,⟨by lia,by lia,by show 1*_<=_;exact aL (show _<=1000 by lia) wp⟩,λz hz=>?_⟩;have hz:z=(mkL ns.length []).map L2.T.bl:=by
  rw[hz,show((List.replicate (((ns.length:Nat):Int)).toNat [frz (OT.fz (L2.T.bl false))]).flatten)=List.replicate ns.length (L2.T.bl false)from Zzt];unfold mkL;rw[WS];refine UV (by rw[aN,ak,WP]) λk h1 h2=>?_;rw[List.getElem_replicate,VZ]
  rfl
 rw[hz];refine fL inT gs (λas o=>∃x,o=[.fz (hlT D s ns off),.fz (ntT gs),.l1 ((mkL ns.length as).map L2.T.bl),x]) ⟨_,rfl⟩ ?_ ?_
 .rintro as g bs _ e ⟨x,rfl⟩;have lt:g<ns.length:=hg g (by rw[e];simp);refine⟨⟨rfl,rfl⟩,s,ns,off,g,rfl,lt,g,?_,.fz (inT g),?_⟩
  .unfold ixN;rw[ak,Oj,ZY (X9 _),ZY wo]
   rfl
  .rw[<- YW,Tu]
   rfl
 .rintro _ ⟨x,rfl⟩;exact q
abbrev mkG(mk:xk)(k:Nat):Bool:=mk.getD k false
def iM(st:zt)(k:Nat):Bool:=(st.getD k none).isSome
def TJ:ST:=λts q=>∃(d:zD)(st:zt),ts=[ntT d,.lst (st.map dT)]/\d.length<=1000/\(∀r∈d,r<st.length)/\q (.fz (.bl (mtS (iM st) d)))
def acZ(T:Tx D):gT 1 Jm yx TJ:=ya T.afD λF=>by
 refine F.okT aaM (λ_ _=>bH (bO (bM (Xd rfl) T.acz boot_any (bx (dG (bG HW) Rm Rm ["room"] (cj wn) (eF (i:=0)) cA (qR Hq (bJ wa wn) fY)) bA)))) ?_;rintro _ R ⟨d,st,rfl,few,hd,q⟩;refine⟨by rw[ak];exact aL few wp,comp_map inT (λr=>.bl (iM st r)) d (λr hr N M hN=>?_) ⟨d.map (iM st),by rw[WS];rfl,?_⟩⟩
 .have lr:=hd r hr;have er:=aj lr;refine⟨_,dB er,?_⟩;have hN:N (.bl ((st.getD r none).isSome)):=hN;rw[au,er]at hN;cases e:st[r]with
  |none=>rw[e]at hN;exact hN
  |some n=>rw[e]at hN;exact hN
 .show R (.fz (.bl ((d.map (iM st)).any λb=>b)));rwa[UR]
def yd(e:Bool):ST:=λts q=>∃(ds:wf)(st:zt),ts=[GQ ds,.lst (st.map dT)]/\ds.length<=1000/\(∀d∈ds,d.length<=1000/\∀r∈d,r<st.length)/\q (.fz (.bl (jn e ds (iM st))))
def Xv(T:Tx D):gT 2 lA nF (yd false):=ya T.aaK λF=>by
 refine F.okT Wy (λ_ _=>bH (bO (bM (Xd rfl) T.acz boot_any (bx (dG (bG zM) Eu Eu ["door"] (cj wn) (eF (i:=0)) cA (bI (acZ T) (bx wn (bx wa bA)))) bA)))) ?_;rintro _ R ⟨ds,st,rfl,few,hd,q⟩;refine⟨by rw[ak];exact aL few wp,comp_map ntT (λd=>.bl (mtS (iM st) d)) ds (λd hm N M hN=>⟨d,st,rfl,(hd d hm).1,(hd d hm).2,hN⟩) ⟨ds.map (mtS (iM st)),by rw[WS];rfl,?_⟩⟩;show R (.fz (.bl ((ds.map (mtS (iM st))).any λb=>b)));rwa[UR]
abbrev ldG(ld:wv)(k:Nat):wf:=ld.getD k []
structure Steps(e:Bool)(mk:xk)(ld:wv)(st:zt):Prop where
 len:st.length=mk.length
 zero:∀k,k<mk.length->(st.getD k none=some 0↔mkG mk k=true)
 lf:Lfp e mk.length (mkG mk) (ldG ld) (iM st)
structure LdB(m:Nat)(ld:wv):Prop where
 len:ld.length=m
 few:∀ds∈ld,ds.length<=1000
 ok:∀ds∈ld,∀d∈ds,d.length<=1000/\∀r∈d,r<m
def FZ(mg:Str->Ψ):ST:=λts q=>∃(e:Bool)(v:Addr)(mk:xk)(ld:wv),ts=[blT mk,.lst (ld.map GQ),.val (.ref v)]/\e=false/\mg lA=some (.ref v)/\mk.length<=100/\LdB mk.length ld/\∀st:zt,Steps e mk ld st->q (.l1 (st.map dT))
def cnt(S:Nat->Bool):Nat->Nat
 |0=>0
 |n+1=>cnt S n+if S n then 0 else 1
theorem WR{S S':Nat->Bool} : ∀{n:Nat},(∀k,k<n->S k=true->S' k=true)->cnt S' n<=cnt S n
 |0,_=>aG _
 |n+1,h=>by
  have a:=WR (n:=n) λk hk=>h k (WV _ hk);have b:=h n (X0 _);show cnt S' n+(if S' n then 0 else 1)<=cnt S n+if S n then 0 else 1;cases e:S n with
  |true=>rwa[b e]
  |false=>refine Nat.add_le_add a ?_;split<;>simp
theorem Wa{S S':Nat->Bool}{k:Nat}(s:S k=false)(s':S' k=true):∀{n:Nat},k<n->(∀k,k<n->S k=true->S' k=true)->cnt S' n<cnt S n
 |0,hk,_=>absurd hk (WZ _)
 |n+1,hk,h=>by
  show cnt S' n+(if S' n then 0 else 1)<cnt S n+if S n then 0 else 1;by_cases c:k=n
  .subst c;have a:=WR (n:=k) λj hj=>h j (Th hj hk);rw[s,s'];show cnt S' k+0<cnt S k+1;lia
  .have a:=Wa s s' (n:=n) (XX (UY hk) c) λj hj=>h j (WV _ hj);have b:=h n (X0 _);cases e:S n with
   |true=>rwa[b e]
   |false=>exact aR (Nat.add_lt_add_right a _) (Nat.add_le_add_left (by split<;>simp) _)
def stU(st:zt)(cm:zD)(n:Nat):zt:=st.zipIdx.map λp=>if p.2∈cm then some n else p.1
def pF : (stU st cm n).length=st.length:=by unfold stU;rw[ak,UP]
def Sh(hk:k<st.length):(stU st cm n).getD k none=if k∈cm then some n else st.getD k none:=by
 unfold stU;rw[au,aq,aj (show k<st.zipIdx.length by rwa[UP]),QU,au,aj hk];show(if 0+k∈cm then some n else st[k])=_;rw[UQ]
 rfl
def Yv : stU st [] n=st:=by
 refine UV (by rw[pF]) λk h1 h2=>?_;have:=Sh (cm:=[]) (n:=n) h2;rw[au,aj h1,au,aj h2,ZZ wr]at this;exact this
def abX{r:Nat} : (stU st cm n).set r (some n)=stU st (cm++[r]) n:=by
 refine UV (by rw[WH,pF,pF]) λk h1 h2=>?_;have hk:k<st.length:=by rw[pF]at h2;exact h2
 have a:=Sh (cm:=cm) (n:=n) hk;have b:=Sh (cm:=cm++[r]) (n:=n) hk;rw[au,aj (by rwa[pF])]at a b;rw[Q2];have a:(stU st cm n)[k]'(by rwa[pF])=_:=a;have b:(stU st (cm++[r]) n)[k]'(by rwa[pF])=_:=b;rw[a,b];by_cases e:r=k
 .rw[ZY e,ZY (by simp[e])]
 .rw[ZZ e];by_cases c:k∈cm
  .rw[ZY c,ZY (U1 _ c)]
  .rw[ZZ c,ZZ (by simp[c];exact λz=>e z.symm)]
structure SI(e:Bool)(mk:xk)(ld:wv)(st:zt)(cm:zD):Prop where
 len:st.length=mk.length
 zero:∀k,k<mk.length->(st.getD k none=some 0↔mkG mk k=true)
 low:∀A:Nat->Bool,(∀k,k<mk.length->mkG mk k=true->A k=true)->(∀k,k<mk.length->jn e (ldG ld k) A=true->A k=true)->∀k,k<mk.length->iM st k=true->A k=true
 fin:cm=[]->∀k,k<mk.length->jn e (ldG ld k) (iM st)=true->iM st k=true
def YT{e:Bool}{A:Nat->Bool}(h:∀d∈ds,∀r∈d,S r=true->A r=true)(hj:jn e ds S=true):jn e ds A=true:=by
 cases e with
 |false =>
  obtain⟨d,hd,r,hr,hs⟩:=Hw.mp hj;exact Hw.mpr ⟨d,hd,r,hr,h d hd r hr hs⟩
 |true =>
  obtain⟨a,b⟩:=Ou.mp hj;exact Ou.mpr ⟨a,λd hd=>let⟨r,hr,hs⟩:=b d hd;⟨r,hr,h d hd r hr hs⟩⟩
def alu{e:Bool} : jn e ds (λ_=>false)=false:=by
 cases h:jn e ds (λ_=>false)with
 |false=>rfl
 |true =>
  cases e with
  |false=>obtain⟨d,hd,r,hr,hs⟩:=Hw.mp h;cases hs
  |true =>
   obtain⟨a,b⟩:=Ou.mp h;cases ds with
   |nil=>cases a
   |cons d ds=>obtain⟨r,hr,hs⟩:=b d (aO ..);cases hs
def adJ{ld:wv}(h:LdB m ld){d:zD}(hd:d∈ldG ld k):d.length<=1000/\∀r∈d,r<m:=by
 have hd:d∈ld.getD k []:=hd;rw[au]at hd;cases e:ld[k]? with
 |none=>rw[e]at hd;cases hd
 |some ds=>rw[e]at hd;exact h.ok ds (aC e) d hd
def cmP(e:Bool)(ld:wv)(st:zt):zD:=(ld.zipIdx.filter λp=>(st.getD p.2 none).isNone&&jn e p.1 (iM st)).map (·.2)
def Ca{e:Bool}{ld:wv}(hl:LdB m ld) : k∈cmP e ld st↔k<m/\iM st k=false/\jn e (ldG ld k) (iM st)=true:=by
 unfold cmP;constructor
 .intro h;obtain⟨p,hp,rfl⟩:=YV.mp h;obtain⟨hp,hb⟩:=List.mem_filter.mp hp;obtain⟨h1,h2,h3⟩:=List.mem_zipIdx hp;rw[UQ]at h2;have h3':p.1=ld[p.2]'h2:=by rw[h3];congr 1
  obtain⟨a,b⟩:=Bool.and_eq_true_iff.mp hb;refine⟨by rw[<- hl.len];exact h2,?_,?_⟩
  .unfold iM;cases z:st.getD p.2 none with
   |none=>rfl
   |some n=>rw[z]at a;cases a
  .show jn e (ld.getD p.2 []) _=_;rwa[au,aj h2,<- h3']
 .rintro⟨hk,a,b⟩;have hk:k<ld.length:=by rwa[hl.len]
  refine YV.mpr ⟨(ld[k],k),List.mem_filter.mpr ⟨?_,?_⟩,rfl⟩
  .have:=aU (l:=ld.zipIdx) (n:=k) (by rwa[UP]);rw[QU,UQ]at this;exact this
  .have b:jn e (ld.getD k []) (iM st)=true:=b;rw[au,aj hk]at b;unfold iM at a;refine Bool.and_eq_true_iff.mpr ⟨?_,b⟩;cases z:st.getD k none with
   |none=>rfl
   |some n=>rw[z]at a;cases a
def SI.next{e:Bool}{ld:wv}(h:SI e mk ld st cm)(hl:LdB mk.length ld):SI e mk ld (stU st (cmP e ld st) (n+1)) (cmP e ld st)/\(cmP e ld st≠[]->cnt (iM (stU st (cmP e ld st) (n+1))) mk.length<cnt (iM st) mk.length)/\cnt (iM (stU st (cmP e ld st) (n+1))) mk.length<=cnt (iM st) mk.length:=by
 have at_:∀k,k<mk.length->(stU st (cmP e ld st) (n+1)).getD k none=if k∈cmP e ld st then some (n+1)else st.getD k none:=λk hk=>Sh (by rwa[h.len]);have me:∀k,k<mk.length->iM (stU st (cmP e ld st) (n+1)) k=(decide (k∈cmP e ld st) || iM st k):=λk hk=>by
  unfold iM;rw[at_ k hk];by_cases c:k∈cmP e ld st
  .rw[ZY c,Zs c];rfl
  .rw[ZZ c,Zp c];rfl
 have up:∀k,k<mk.length->iM st k=true->iM (stU st (cmP e ld st) (n+1)) k=true:=λk hk s=>by rw[me k hk,s,Bool.or_true]
 refine⟨⟨by rw[pF,h.len],λk hk=>?_,λA a b k hk s=>?_,λz k hk hj=>?_⟩,λne=>?_,WR up⟩
 .rw[at_ k hk];by_cases c:k∈cmP e ld st
  .rw[ZY c];obtain⟨_,s,_⟩:=(Ca hl).mp c;refine⟨λz=>(nomatch z),λg=>?_⟩;have:=(h.zero k hk).mpr g;unfold iM at s;rw[this]at s;cases s
  .rw[ZZ c];exact h.zero k hk
 .rw[me k hk]at s;rcases Bool.or_eq_true_iff.mp s with s|s
  .obtain⟨_,_,j⟩:=(Ca hl).mp (of_decide_eq_true s);exact b k hk (YT (λd hd r hr sr=>h.low A a b r ((adJ hl hd).2 r hr) sr) j)
  .exact h.low A a b k hk s
 .rw[z,Yv]at hj ⊢;cases s:iM st k with
  |true=>rfl
  |false =>
   have:=(Ca (e:=e) (st:=st) hl).mpr ⟨hk,s,hj⟩;rw[z]at this;cases this
 .obtain⟨k,hk⟩ : ∃k,k∈cmP e ld st:=by
   cases c:cmP e ld st with
   |nil=>exact absurd c ne
   |cons k l=>exact⟨k,aO ..⟩
  obtain⟨km,s,_⟩:=(Ca hl).mp hk;exact Wa s (by rw[me k km,Zs hk];rfl) km up
def Vs(T:Tx D):gT 3 yD oO (FZ mg):=ya T.Wx λF=>by
 refine F.okU yr λai A outer s H E hr nd=>?_;have GV:∀b:Bool,∃ps,gT 2 lA ps (yd false):=λ_=>⟨_,(Xv T)⟩;refine⟨_,(bF (iu 3 (dG (bG m6) pP pP ["mark"] (cj wn) (eF (i:=0)) cA (NT (cY wn) bC fY)))
  (bF (nU (bG m6) pP ["marks","leads","joins","steps","coming","many","?room"] ["room","mark"] (vA T.jD (bx wn bA)) (eX (n:=2) (bN (eF (i:=0)) (bN (eF (i:=1)) c7))) (Bu (cY we)) wn (jU (i:=4) yr.nd rfl (Or.inl rfl)))
  (bF (bQ 5 bC)
  (bF (IK (b_ Nr (bM cI T.dI WJ (bx wE bA)) bC)
  (bF (acC 5 adh bC)
  (bF (nU (bG m6) pP ["marks","leads","joins","steps","coming","many","?room"] ["room","doors"] (vA T.jD (bx we bA)) (eX (n:=2) (bN (eF (i:=0)) (bN (eF (i:=1)) c7))) (Bu (QW.qt (WY (b_ Bj (vf 5 wn) fY) (Qq (KC 5 (cY (Py 5 (adq (mg:=mg) (k:=2) (nm:=λ_=>lA) (S:=λ_=>yd false) 4 GV hr.md (bx we (bx (qv 5) bA)))))))))) wn (jU (i:=4) yr.nd rfl (Or.inl rfl)))
  (bH (dU (cj wE) (bY (n:=99) 6)
  (bH (sW 3 (qv 5) (qv 6))))))))
  (bH (ji 3)))))),?_⟩
 rintro _ R ⟨e,v,mk,ld,rfl,he,hv,m1,hl,q⟩;have few:∀{α:Type}{l:List α},l.length<=mk.length->l.length<=sizeLine:=λ{α l}h=>aL h (aL m1 wp);have c0:∀k,k<mk.length->(mk.map λb=>if b then some 0 else none).getD k none=if mkG mk k then some 0 else none:=λk hk=>by
  show _=if mk.getD k false then some 0 else none;rw[au,aq,au,aj hk]
  rfl
 have s0:∀k,k<mk.length->iM (mk.map λb=>if b then some 0 else none) k=mkG mk k:=λk hk=>by
  unfold iM;rw[c0 k hk];cases mkG mk k<;>rfl
 have i0:SI e mk ld (mk.map λb=>if b then some 0 else none) ((mk.zipIdx.filter (·.1)).map (·.2)):=by
  refine⟨ak ..,λk hk=>?_,λA a b k hk s=>a k hk (by rw[<- s0 k hk];exact s),λz k hk hj=>?_⟩
  .rw[c0 k hk];cases mkG mk k with
   |true=>exact⟨λ_=>rfl,λ_=>rfl⟩
   |false=>exact⟨λz=>(nomatch z),λz=>(nomatch z)⟩
  .have no:∀r,r<mk.length->mkG mk r=false:=λr hr=>by
    cases g:mkG mk r with
    |false=>rfl
    |true =>
     have g:mk.getD r false=true:=g;rw[au,aj hr]at g;have:r∈(mk.zipIdx.filter (·.1)).map (·.2):=YV.mpr ⟨(mk[r],r),List.mem_filter.mpr ⟨by
      have:=aU (l:=mk.zipIdx) (n:=r) (by rwa[UP]);rw[QU,UQ]at this;exact this,g⟩,rfl⟩
     rw[z]at this;cases this
   have:=YT (A:=λ_=>false) (λd hd r hr sr=>by
    have lr:=(adJ hl hd).2 r hr;rw[s0 r lr,no r lr]at sr;cases sr) hj
   rw[alu]at this;cases this
 refine⟨few (by rw[ak];exact aG _),comp_map L2.T.bl (λb=>dT (if b then some 0 else none)) mk (λb _ N M hN=>by cases b<;>exact hN) ?_⟩;rw[show(mk.map λb=>dT (if b then some 0 else none))=(mk.map λb=>if b then some 0 else none).map dT by rw[WS];rfl];show(rE (mk.map L2.T.bl)).length<=sizeLine/\iU _ _ _ _ (rE (mk.map L2.T.bl)) _;rw[Ku];refine⟨few (by rw[ak,UP];exact aG _),jo (λp:Bool×Nat=>.tup [.int (p.2:Nat),.bl p.1]) (·.1) (λp=>inT p.2) mk.zipIdx (λp _ N M h1 h2=>⟨rfl,sw2 h1 h2⟩) ?_⟩;generalize mk.map (λb=>if b then some 0 else none)=st0 at i0 ⊢;rw[show((mk.zipIdx.filter (·.1)).map λp=>inT p.2)=((mk.zipIdx.filter (·.1)).map (·.2)).map inT by rw[WS];rfl];generalize(mk.zipIdx.filter (·.1)).map (·.2)=cm0 at i0 ⊢;refine⟨λn o=>∃(st:zt)(cm:zD)(dQ:Nat)(x:OT),o=[.fz (blT mk),.fz (.lst (ld.map GQ)),.fz (.val (.ref v)),.l1 (st.map dT),.fz (ntT cm),.fz (inT dQ),x]/\SI e mk ld st cm/\n=cnt (iM st) mk.length+if cm=[]then 0 else 1,⟨_,st0,cm0,0,.und,rfl,i0,rfl⟩,?_⟩;rintro n _ ⟨st,cm,dQ,x,rfl,hi,rfl⟩;refine swD (λhc=>?_) λhc=>?_
 .have ne:cm≠[]:=λz=>by rw[z]at hc;exact absurd hc wp
  obtain⟨i1,i2,i3⟩:=hi.next (n:=dQ) hl;refine⟨λo=>∃x,o=[.fz (blT mk),.fz (.lst (ld.map GQ)),.fz (.val (.ref v)),.l1 ((stU st (cmP e ld st) (dQ+1)).map dT),.fz (ntT (cmP e ld st)),.fz (inT (dQ+1)),x],?_,?_⟩
  .rintro _ ⟨x,rfl⟩;refine⟨_,?_,_,_,_,x,rfl,i1,rfl⟩;rw[ZZ ne];by_cases c:cmP e ld st=[]
   .rw[ZY c];lia
   .rw[ZZ c];have:=i2 c;exact Nat.succ_lt_succ this
  .show(rE (ld.map GQ)).length<=sizeLine/\iU _ _ _ _ (rE (ld.map GQ)) _;rw[Ku];refine⟨few (by rw[ak,UP,hl.len];exact aG _),jo (λp:List zD×Nat=>.tup [.int (p.2:Nat),GQ p.1]) (λp=>(st.getD p.2 none).isNone&&jn e p.1 (iM st)) (λp=>inT p.2) ld.zipIdx (λp hp N M h1 h2=>⟨rfl,?_⟩) ?_⟩
   .obtain⟨_,lp,ep⟩:=List.mem_zipIdx hp;rw[UQ]at lp;have ls:p.2<st.length:=by rwa[hi.len,<- hl.len]
    have es:=aj ls;have pm:p.1∈ld:=by rw[ep];exact aU _
    refine⟨_,dB es,?_⟩;rw[au,es]at h1 h2;cases z:st[p.2]with
    |some k=>rw[z]at h2;exact h2 rfl
    |none =>
     rw[z]at h1 h2;subst he;refine⟨false,hv,p.1,st,rfl,hl.few _ pm,λd hd=>⟨(hl.ok _ pm d hd).1,λr hr=>by rw[hi.len];exact(hl.ok _ pm d hd).2 r hr⟩,?_⟩;exact⟨trivial,sw2 (λz=>h1 (by rw[z];rfl)) λz=>h2 (by rw[z];rfl)⟩
   .rw[show((ld.zipIdx.filter λp=>(st.getD p.2 none).isNone&&jn e p.1 (iM st)).map λp=>inT p.2)=(cmP e ld st).map inT by unfold cmP;rw[WS];rfl];refine fL inT (cmP e ld st) (λas o=>∃x,o=[.fz (blT mk),.fz (.lst (ld.map GQ)),.fz (.val (.ref v)),.l1 ((stU st as (dQ+1)).map dT),.fz (ntT (cmP e ld st)),.fz (inT (dQ+1)),x]) ⟨x,by rw[Yv];rfl⟩ ?_ ?_
    .rintro as r bs _ ea ⟨x,rfl⟩;obtain⟨rm,_,_⟩:=(Ca hl).mp (show r∈cmP e ld st by rw[ea];simp);refine⟨r,?_,.fz (inT r),?_⟩
     .unfold ixN;rw[ak,pF,hi.len,ZY (X9 _),ZY wo]
      rfl
     .rw[<- abX,Tu]
      rfl
    .rintro _ ⟨x,rfl⟩;exact⟨x,rfl⟩
 .have ce:cm=[]:=by
   cases cm with
   |nil=>rfl
   |cons a l=>exact absurd (show(0:Int)<((((a::l).map inT).length:Nat):Int)by rw[ak,List.length_cons];lia) hc
  refine q st ⟨hi.len,hi.zero,⟨λk hk g=>?_,hi.fin ce,hi.low⟩⟩;have:=(hi.zero k hk).mpr g;unfold iM;rw[this]
  rfl
theorem xY{α:Type}{g:α->PyData}(h:∀x,PyData.canLay0 (g x)=true):∀xs:List α,PyData.canLayAll0 (xs.map g)=true
 |[]=>rfl
 |x::xs=>by rw[List.map_cons];unfold PyData.canLayAll0;rw[xY h xs,h x];rfl
theorem Ai{α:Type}{g:α->PyData}{n:Nat}(h:∀x,PyData.depth (g x)<=n):∀xs:List α,PyData.depthAll (xs.map g)<=n
 |[]=>aZ _
 |x::xs=>by
  rw[List.map_cons];unfold PyData.depthAll;have:=Ai h xs;have:=h x;lia
theorem qe{α:Type}{g:α->PyData}{h:α->T}(e:∀x,h x=ofD (g x)):∀xs:List α,xs.map h=OD (xs.map g)
 |[]=>rfl
 |x::xs=>by rw[List.map_cons,List.map_cons,qe e xs,e x];rfl
theorem Vk{α:Type}[DecidableEq α]{g:α->PyData}(h:∀x y,PyData.eqv (g x) (g y)=decide (x=y)):∀xs ys:List α,PyData.eqvAll (xs.map g) (ys.map g)=decide (xs=ys)
 |[],[]=>rfl
 |[],_::_=>rfl
 |_::_,[]=>rfl
 |x::xs,y::ys=>by
  rw[List.map_cons,List.map_cons];unfold PyData.eqvAll;rw[h,Vk h xs ys,<- Bool.decide_and];exact decide_eq_decide.mpr ⟨λz=>by rw[z.1,z.2],λz=>List.cons.inj z⟩
structure EqD{α:Type}[DecidableEq α](h:α->T)(g:α->PyData):Prop where
 of:∀x,h x=ofD (g x)
 lay:∀x,PyData.canLay0 (g x)=true
 dep:∀x,PyData.depth (g x)<=60
 eqv:∀x y,PyData.eqv (g x) (g y)=decide (x=y)
def EqD.lst{α:Type}[DecidableEq α]{h:α->T}{g:α->PyData}(E:EqD h g)(xs:List α):SeqAt.shaped (.list (xs.map g))=true:=by
 have h1:PyData.canLay0 (.list (xs.map g))=true:=by unfold PyData.canLay0;exact xY E.lay xs
 have h2:PyData.depth (.list (xs.map g))<=64:=by unfold PyData.depth;have:=Ai E.dep xs;lia
 unfold SeqAt.shaped;rw[h1,Zs h2];rfl
def dD:xC->PyData
 |none=>.none
 |some d=>.int (d:Nat)
def j_:EqD dT dD:=⟨λx=>by cases x<;>rfl,λx=>by cases x<;>rfl,λx=>by cases x<;>exact aZ _,λx y=>by
 cases x<;>cases y
 .rfl
 .rfl
 .rfl
 .rename_i a b
  show decide ((a:Int)=(b:Int))=_;exact decide_eq_decide.mpr ⟨λz=>by rw[Int.ofNat.inj z],λz=>by rw[Option.some.inj z]⟩⟩
def Lfp.ld{e:Bool}{m:Nat}{mk:Nat->Bool}{ld kc:Nat->wf}{S:Nat->Bool}(h:Lfp e m mk ld S)(el:∀k,k<m->ld k=kc k):Lfp e m mk kc S:=⟨h.base,λk hk j=>h.step k hk (by rwa[el k hk]),λA a b=>h.least A a λk hk j=>b k hk (by rwa[<- el k hk])⟩
def Lfp.marks{e:Bool}{mk mk':Nat->Bool}{ld:Nat->wf}(h:Lfp e m mk ld S)(el:∀k,k<m->mk k=mk' k):Lfp e m mk' ld S:=⟨λk hk g=>h.base k hk (by rwa[el k hk]),h.step,λA a b=>h.least A (λk hk g=>a k hk (by rwa[<- el k hk])) b⟩
abbrev XJ(ns:Θ)(gs:zD):Prop:=∀g∈gs,g<ns.length
def Wv(hk:k<m):mkG (mkL m gs) k=mkF gs k:=by
 show(mkL m gs).getD k false=_;unfold mkL;rw[au,aq,VX hk]
 rfl
theorem Jp{α β:Type}(f:α->T)(g:β->T):∀(xs:List α)(ys:List β),Gw (xs.map f) (ys.map g)=(xs.zip ys).map λp=>.tup [f p.1,g p.2]
 |[],ys=>by cases ys<;>rfl
 |_::_,[]=>rfl
 |x::xs,y::ys=>by
  rw[List.zip_cons_cons,List.map_cons,List.map_cons,List.map_cons,<- Jp f g xs ys]
  rfl
open Rw (sg jx jd cu jM j4 Big)
def otw(mk:xk)(cs:xf)(S:Nat->Bool):xf:=(List.range mk.length).map λk=>if mkG mk k=false/\S k=true then cs.getD k none else none
def zZ(mg:Str->Ψ):ST:=λts q=>∃(mk:xk)(cs:xf),ts=[blT mk,.lst (cs.map opT)]/\mk.length<=100/\cs.length=mk.length/\(∀o,some o∈cs->o.ways.length<=1000/\∀w∈o.ways,w.1<mk.length)/\∀S:Nat->Bool,Lfp false mk.length (mkG mk) (λk=>ldC (cs.getD k none)) S->q (.l1 ((otw mk cs S).map opT))
def Lw(T:Tx D):gT 4 sU kj (zZ mg):=ya T.Qi λF=>by
 refine F.okU zQ λai A outer s H E hr nd=>?_;obtain⟨vs,cS,_⟩:=OkF.val (Xv T);refine⟨_,(bF (nU (bG jR) iB iB ["offer"] (cj we) (eF (i:=0)) cA (NT (b_ Bj wn fY) (cF bA) (cF (bx (YX (bG jR) ("offer"::iB) ("offer"::iB) ["room","chance"] (cj (bJ wn bC)) (eX (n:=2) (bN (eF (i:=0)) (bN (eF (i:=1)) c7))) cA wn) bA))) (jU (i:=2) zQ.nd rfl (Or.inl rfl)))
  (bF (bQ 3 (bI (Vs T) (bx wn (bx wa (bx (ah8 (by rfl) cS) bA)))))
  (bH (bO (dG (bG jR) iB iB ["step","offer"] (JL T.Uo (bx wP (bx we bA))) (eX (n:=2) (bN (eF (i:=0)) (bN (eF (i:=1)) c7))) cA (NT (QW.qt (kJ (b_ Bj wn fY) (iC (b_ (yY hr.units) wn bC)))) fY we)))))),?_⟩
 rintro _ R ⟨mk,cs,rfl,m1,cl,hc,q⟩;have few:∀{α:Type}{l:List α},l.length<=mk.length->l.length<=sizeLine:=λ{α l}h=>aL h (aL m1 wp);refine⟨few (by rw[ak,cl];exact aG _),comp_map opT (λc=>GQ (ldC c)) cs (λc hm N M hN=>?_) ?_⟩
 .cases c with
  |none=>exact hN
  |some o =>
   refine⟨by rw[ak];exact aL (hc o hm).1 wp,comp_map nwT (λw=>inT w.1) o.ways (λw hw N M hN=>⟨rfl,hN⟩) ?_⟩;rw[show GQ (ldC (some o))=.lst [.lst (o.ways.map λw=>inT w.1)]by show L2.T.lst [L2.T.lst ((o.ways.map (·.1)).map inT)]=_;rw[WS];rfl]at hN;exact hN
 .rw[show(cs.map λc=>GQ (ldC c))=(cs.map ldC).map GQ by rw[WS];rfl];have gl:∀k,ldG (cs.map ldC) k=ldC (cs.getD k none):=λk=>by
   show(cs.map ldC).getD k []=_;rw[au,aq,au];cases cs[k]?<;>rfl
  refine⟨false,vs,mk,cs.map ldC,rfl,rfl,cS,m1,⟨by rw[ak,cl],λds fA=>?_,λds fA d hd=>?_⟩,λst hs=>?_⟩
  .obtain⟨c,_,rfl⟩:=YV.mp fA;cases c with
   |none=>exact aZ _
   |some o=>exact UH rfl
  .obtain⟨c,hm,rfl⟩:=YV.mp fA;cases c with
   |none=>cases hd
   |some o =>
    cases YR.mp hd;refine⟨by rw[ak];exact(hc o hm).1,λr hr=>?_⟩;obtain⟨w,hw,rfl⟩:=YV.mp hr;exact(hc o hm).2 w hw
  .have q:=q (iM st) (hs.lf.ld λk _=>gl k);have sl:=hs.len;show(Gw (st.map dT) (cs.map opT)).length<=sizeLine/\iU _ _ _ _ (Gw (st.map dT) (cs.map opT)) _;rw[Jp];refine⟨few (by rw[ak,W1];lia),comp_map (λp:Option Nat×xN=>.tup [dT p.1,opT p.2]) (λp=>opT (if p.1=none\/p.1=some 0 then none else p.2)) (st.zip cs) (λp hp N M hN=>?_) ?_⟩
   .refine⟨rfl,?_⟩;obtain⟨a,c⟩:=p;cases a with
    |none=>rw[ZY (.inl rfl)]at hN;exact hN
    |some n =>
     by_cases e:n=0
     .rw[ZY (.inr (by rw[e]))]at hN;exact swT (Zs wo) hN
     .rw[ZZ (by simp[e])]at hN;exact swF (Zp wo) hN
   .have:((st.zip cs).map λp=>opT (if p.1=none\/p.1=some 0 then none else p.2))=(otw mk cs (iM st)).map opT:=by
     unfold otw;rw[WS];refine UV (by rw[ak,ak,W1,WP];lia) λk h1 h2=>?_;rw[ak,WP]at h2;rw[VZ,VZ,UK,JU];dsimp only[Function.comp];have z:=hs.zero k h2;rw[au,aj (show k<st.length by lia)]at z;have z:st[k]=some 0↔mkG mk k=true:=z;have g:iM st k=st[k].isSome:=by unfold iM;rw[au,aj (show k<st.length by lia)];rfl
     rw[au,aj (show k<cs.length by lia),g]
     congr 1
     cases e:st[k]with
     |none=>rw[ZY (.inl rfl),ZZ (λz=>by cases z.2)]
     |some n =>
      rw[e]at z;by_cases c:n=0
      .rw[ZY (.inr (by rw[c])),ZZ (λy=>by rw[z.mp (by rw[c])]at y;cases y.1)]
      .rw[ZZ (by simp[c]),ZY ⟨by
        cases g:mkG mk k with
        |false=>rfl
        |true=>exact absurd (Option.some.inj (z.mpr g)) c,rfl⟩]
       rfl
    rwa[this]
def ain(l:List α)(h:α->T){i:Int}(h0:0<=i)(h1:i<l.length):∃a∈l,ixT (l.map h) i=some (h a):=by
 obtain⟨k,rfl⟩:=Zzu h0;have hk:k<l.length:=by lia
 refine⟨l[k],aU hk,?_⟩;show nth (l.map h) k=_;rw[sX,aq,aj hk];rfl
def div_pos{b:Int}(hb:0<b):(Rat.divInt a b).den<=b.toNat/\(Rat.divInt a b).num.natAbs<=a.natAbs:=by
 have l:=yZ (t:=a) (b:=b) (c:=(Int.gcd a b:Nat)) (WU hb) (by have:=nW (a:=a) (b:=b) (WU hb);exact WU this) wo (XZ (nW (WU hb)) hb);have e:=kZ l (WU hb);injection e with e;injection e with e1 e2;injection e2 with e2 _;injection e1 with e1;injection e2 with e2;have h1:=l.lx;have h2:=l.ly;have h3:=l.pos;have e1:a.fdiv ((Int.gcd a b:Nat):Int)=(Rat.divInt a b).num:=e1;have e2:b.fdiv ((Int.gcd a b:Nat):Int)=((Rat.divInt a b).den:Nat):=e2;rw[e1]at h1;rw[e2]at h2 h3;omega
structure Shr(s:Rat):Prop where
 lo:0<=s
 hi:s<1
 den:s.den<=100
structure Pay(p:Rat):Prop where
 num:p.num.natAbs<=10^30
 den:p.den<=1000
def st_size:ST:=λts q=>∃c:Int,ts=[.int c]/\∀n:Nat,n<=8->q (.fz (.int (n:Nat)))
def aef(T:Tx D):gT 2 Qp Dz st_size:=ya T.aif λF=>by
 refine F.okT afB (λhr _=>bF (bQ 1 (bI (ZK T) (bx wn (bx bC bA))))
  (bF (cC (b_ (yY hr.units) (bL cB (bJ we bC) bC) bC)
  (bH (bO bC))
  bR)
  (bF (cC (b_ (yY hr.units) (bL cB (bJ we bC) bC) bC)
  (bH (bO (bL cD bC (bL cB (bJ we bC) bC))))
  bR)
  (bH (bO (bL cD bC (bL cB (bJ we bC) bC))))))) ?_
 rintro _ R ⟨c,rfl,q⟩;have s1:=rG c 1;have s1':0<=yQ c 1:=s1.1;refine⟨c,2,rfl,by decide,_,gZ (k:=0),by decide,swD (λh=>q 0 wp) λh=>⟨_,gZ (k:=0),by decide,swD (λh=>⟨_,gZ (k:=1),by decide,?_⟩) λh=>⟨_,gZ (k:=1),by decide,?_⟩⟩⟩
 .have:=q (6+yQ c 1%3).toNat wo;rw[show(((6+yQ c 1%3).toNat:Nat):Int)=6+yQ c 1%3 by lia]at this;exact this
 .have:=q (1+yQ c 1%5).toNat wo;rw[show(((1+yQ c 1%5).toNat:Nat):Int)=1+yQ c 1%5 by lia]at this;exact this
structure LD where
 sort:Nat
 pay:Rat
 prs:zh
abbrev zI:=List (List LD)
abbrev ldT(d:LD):T:=.tup [.int (d.sort:Nat),frR d.pay,.lst (d.prs.map nwT)]
structure LDk(m:Nat)(d:LD):Prop where
 sort:d.sort<5
 pay:Pay d.pay
 few:d.prs.length<=4
 lt:∀p∈d.prs,p.1<m
 nn:∀p∈d.prs,0<=p.2
 one:CV (d.prs.map (·.2))=1
 dn:∃q:Nat,0<q/\q<=4000/\∀p∈d.prs,p.2.den ∣ q
 s0:d.sort=0\/d.sort=4->∃a,d.prs=[(a,1)]
 s1:d.sort=1->∃a b x,d.prs=[(a,x),(b,1-x)]
 s2:d.sort=2->∃rs:zD,d.prs=rs.map λr=>(r,mkRat 1 rs.length)
def Rq(l:List α) : fG l none (some (n:Int))=l.take n:=by
 unfold fG;show(l.drop 0).take (HT.sIx l.length l.length (some (n:Int))-0)=_;rw[HT.uy,List.drop_zero,Nat.sub_zero];rw[List.take_eq_take_iff];lia
def O9{b:Int}(hb:0<b):(Rat.divInt a b).den ∣ b.toNat:=by
 have l:=yZ (t:=a) (b:=b) (c:=(Int.gcd a b:Nat)) (WU hb) (by have:=nW (a:=a) (b:=b) (WU hb);exact WU this) wo (XZ (nW (WU hb)) hb);have e:=kZ l (WU hb);injection e with e;injection e with _ e2;injection e2 with e2 _;injection e2 with e2;have e2:b.fdiv ((Int.gcd a b:Nat):Int)=((Rat.divInt a b).den:Nat):=e2;have d:((Int.gcd a b:Nat):Int) ∣ b:=JS a b;rw[Int.fdiv_eq_ediv_of_dvd d]at e2;obtain⟨x,hx⟩:=d;have g0:=nW (a:=a) (b:=b) (WU hb);rw[Int.ediv_eq_of_eq_mul_right (WU g0) hx]at e2;exact Int.natCast_dvd_natCast.mp ⟨(Int.gcd a b:Nat),by rwa[<- e2,QP (XY hb),Int.mul_comm]⟩
theorem Yq{S:Int}(hS:S≠0):∀ws:xy,CV (ws.map λw=>Rat.divInt w S)=Rat.divInt ws.sum S
 |[]=>by show(0:Rat)=Rat.divInt 0 S;rw[Rat.zero_divInt]
 |w::ws=>by
  show Rat.divInt w S+CV (ws.map λw=>Rat.divInt w S)=Rat.divInt (w+ws.sum) S;rw[Yq hS ws,JJ _ _ hS hS];refine(JP (oV hS hS) hS).mpr ?_
  grind
theorem U_{n:Nat}(h:0<n):∀k:Nat,CV (List.replicate k (mkRat 1 n))=mkRat k n
 |0=>by show(0:Rat)=mkRat 0 n;rw[Rat.zero_mkRat]
 |k+1=>by
  rw[List.replicate_succ];show mkRat 1 n+CV (List.replicate k (mkRat 1 n))=_;rw[U_ h k,Rat.mkRat_add_mkRat _ _ (VV h) (VV h),Rat.mkRat_eq_iff (Nat.mul_ne_zero (VV h) (VV h)) (VV h)]
  push_cast
  grind
def adW(h:0<n):mkRat n n=1:=by
 rw[show(1:Rat)=mkRat 1 1 from rfl,Rat.mkRat_eq_iff (VV h) (Nat.succ_ne_zero _)];lia
def one_sub{b:Int}(hb:b≠0):1-Rat.divInt a b=Rat.divInt (b-a) b:=by
 rw[show(1:Rat)=Rat.divInt 1 1 from rfl,Rat.divInt_sub_divInt _ _ wp hb,TZ,Int.mul_one]
def Vo(x:Rat):1-x=⟨(x.den:Int)-x.num,x.den,x.den_nz,by
  have:=x.reduced;show Nat.Coprime ((x.den:Int)-x.num).natAbs x.den;have h:Int.gcd ((x.den:Int)-x.num) (x.den:Int)=1:=by
   rw[Int.gcd_self_sub_left];exact this
  exact h⟩:=by
 rw[Rat.mk_eq_divInt,<- one_sub (oM x),rd]
def acG(x:Rat):frR (1-x)=.tup [.int ((x.den:Int)-x.num),.int x.den]:=by rw[Vo]
def aac(x:Rat):(1-x).den=x.den:=by rw[Vo]
def LDk.sure{a so:Nat}{p:Rat}(hso:so=0\/so=4)(ha:a<m)(hp:Pay p):LDk m ⟨so,p,[(a,1)]⟩ :=
 ⟨by show so<5;lia,hp,UH rfl,by simp[ha],by simp;decide,by simp[CV];exact Rat.add_zero 1,⟨1,by decide,by decide,by simp⟩,λ_=>⟨_,rfl⟩,(λz=>by have z:so=1:=z;lia),(λz=>by have z:so=2:=z;lia)⟩
def LDk.toss{a b:Nat}{p x:Rat}(ha:a<m)(hb:b<m)(hp:Pay p)(x0:0<=x)(x1:0<=1-x)(q0:0<q)(q1:q<=4000)(hd:x.den ∣ q):LDk m ⟨1,p,[(a,x),(b,1-x)]⟩ :=
 ⟨UH rfl,hp,UH rfl,by simp[ha,hb],by simp[x0,x1],by simp[CV];grind,⟨q,q0,q1,by simp[hd,aac]⟩,(λz=>by rcases z with z|z<;>cases z),λ_=>⟨_,_,_,rfl⟩,(λz=>by cases z)⟩
def aia(h:0<n):(mkRat 1 n).den=n:=by
 have e:=WW h;injection e with e;injection e with _ e;injection e with e _;injection e with e;lia
def LDk.even{p:Rat}{rs:zD}(h0:0<rs.length)(h4:rs.length<=4)(hr:∀r∈rs,r<m)(hp:Pay p):LDk m ⟨2,p,rs.map λr=>(r,mkRat 1 rs.length)⟩:=by
 have nn:(0:Rat)<=mkRat 1 rs.length:=by rw[<- Rat.divInt_ofNat];exact Rat.divInt_nonneg wp (X9 _)
 refine⟨UH rfl,hp,by rw[ak];exact h4,λx hx=>?_,λx hx=>?_,?_,⟨rs.length,h0,by exact aL h4 wp,λx hx=>?_⟩,(λz=>by rcases z with z|z<;>cases z),(λz=>by cases z),λ_=>⟨rs,rfl⟩⟩
 .obtain⟨r,h,rfl⟩:=YV.mp hx;exact hr r h
 .obtain⟨r,h,rfl⟩:=YV.mp hx;exact nn
 .rw[WS,show((λx:Nat×Rat=>x.2) ∘ λr=>(r,mkRat 1 rs.length))=λ_=>mkRat 1 rs.length from rfl,List.map_const',U_ h0,adW h0]
 .obtain⟨r,h,rfl⟩:=YV.mp hx;rw[aia h0];exact Nat.dvd_refl _
def LDk.mix{p:Rat}{rs:zD}{ws:xy}(hl:ws.length<=4)(hr:∀r∈rs,r<m)(hw:∀w∈ws,0<=w)(le:ws.length<=rs.length)(s0:0<ws.sum)(s1:ws.sum<=4000)(hp:Pay p):LDk m ⟨3,p,(rs.zip ws).map λx=>(x.1,Rat.divInt x.2 ws.sum)⟩:=by
 have m2:(rs.zip ws).map (λx=>x.2)=ws:=List.map_snd_zip le;refine⟨UH rfl,hp,by rw[ak,W1];lia,λx hx=>?_,λx hx=>?_,?_,⟨ws.sum.toNat,by lia,by lia,λx hx=>?_⟩,(λz=>by rcases z with z|z<;>cases z),(λz=>by cases z),(λz=>by cases z)⟩
 .obtain⟨r,h,rfl⟩:=YV.mp hx;exact hr _ (US h).1
 .obtain⟨r,h,rfl⟩:=YV.mp hx;exact Rat.divInt_nonneg (hw _ (US h).2) (XY s0)
 .rw[WS,show((λx:Nat×Rat=>x.2) ∘ λx:Nat×Int=>(x.1,Rat.divInt x.2 ws.sum))=(λw=>Rat.divInt w ws.sum) ∘ λx:Nat×Int=>x.2 from rfl,<- WS,m2,Yq (WU s0)];have e:=one_sub (a:=ws.sum) (b:=ws.sum) (WU s0);rw[Int.sub_self,Rat.zero_divInt]at e
  grind
 .obtain⟨r,h,rfl⟩:=YV.mp hx;exact O9 s0
theorem abd:∀{ws:xy},(∀w∈ws,0<=w)->0<=ws.sum
 |[],_=>by decide
 |w::ws,h=>by
  have:=h w (aO ..);have:=abd (ws:=ws) λx hx=>h x (aJ _ hx);rw[List.sum_cons];lia
theorem abY{b:Int} : ∀{ws:xy},(∀w∈ws,w<=b)->ws.sum<=b*ws.length
 |[],_=>by simp
 |w::ws,h=>by
  have:=h w (aO ..);have:=abY (ws:=ws) λx hx=>h x (aJ _ hx);rw[List.sum_cons,List.length_cons];have:b*((ws.length+1:Nat):Int)=b*ws.length+b:=by grind
  lia
def Yg:ST:=λts q=>∃(c:Int)(m:Nat),ts=[.int c,.int (m:Nat)]/\0<m/\m<=1000/\∀d:LD,LDk m d->q (.fz (ldT d))
def aeH(T:Tx D):gT 4 Pq Dc Yg:=ya T.ahe λ{f fd}F=>by
 refine F.okT Qy (λhr _=>bF (bQ 2 (bI (ZK T) (bx wn (bx bC bA))))
  (bF (bQ 3 (dG (bG Av) u9 u9 ["_law_x"] (cj (fM wa (eU bC) (eU bC))) (eF (i:=0)) cA (bL cB wn wa)))
  (bF (bQ 4 (bI (aah T) (bx (bL Qx (bL cB (bJ wa bC) bC) bC) (bx (bL cD bC (bL cB (bJ wa bC) bC)) bA))))
  (bF (bQ 5 (QEB.out (Qf (cX (pB (cX (A_ (bJ wP bC)) (cX (pB (cX kY (cX kY kW))) kW))) kW))))
  (bF (cC (b_ (yY hr.units) (bL cB (bJ wa bC) bC) bC)
  (bF (bQ 6 (bL cD bC (bL cB (bJ wa bC) bC)))
  (bF (bQ 7 (bI (aah T) (bx (bL cB (bJ wa bC) (bL cD (qv 6) bC)) (bx (qv 6) bA))))
  (bH (bQ 5 (QEB.out (Qf (cX (pB (cX (A_ (bJ wP bC)) (cX (amE 7) kW))) (cX (pB (cX (A_ (bJ wP bC)) (cX (pB (cX (Wc Qx (A_ (bJ (qv 7) bC)) (A_ (bJ (qv 7) bC))) (cX (A_ (bJ (qv 7) bC)) kW))) kW))) kW))))))))
  bR)
  (bF (cC (b_ (yY hr.units) (bL cB (bJ wa bC) bC) bC)
  (bF (bQ 3 (fM wP nR (eU (bL cD bC (bL cB (bJ wa bC) bC)))))
  (bH (nU (bG Av) u9 u9 ["_law_room"] (cj wP) (eF (i:=0)) cA (dN (bx wn (bx (dN (bx bC (bx (bM cI T.dI WJ (bx wE bA)) bA))) bA))) (jU (i:=5) Qy.nd rfl (Or.inl rfl)))))
  bR)
  (bF (cC (b_ (yY hr.units) (bL cB (bJ wa bC) bC) bC)
  (bF (iu 8 (dG (bG Av) u9 u9 ["_law_x"] (cj (fM wa (eU bC) (eU (bL cD bC (bL cB (bJ wa bC) bC))))) (eF (i:=0)) cA (bL cB wn (bJ (cF (bx bC (bx bC (bx bC (bx bC bA))))) (bL cB (bJ wP bC) bC)))))
  (bF (sW 8 (bL cD (vf 8 (En bC)) bC) (En bC))
  (bH (Jh 8 (nU (bG Av) u9 u9 ["_law_k"] (dW T.fQ (bx (bM cI T.dI WJ (bx (qv 8) bA)) bA)) (eF (i:=0)) cA (dN (bx (bJ wE wn) (bx (bI (aah T) (bx (bJ (qv 9) wn) (bx (bM (acW rfl) T.agd boot_sum (bx (qv 9) bA)) bA))) bA))) (jU (i:=5) Qy.nd rfl (Or.inl rfl)))))))
  bR)
  (bH (bO (dN (bx (bM (aeB rfl) T.alw boot_min (bx (bL cB (bJ wa bC) bC) (bx bC bA))) (bx wE (bx (qv 5) bA))))))))))))) ?_
 rintro _ R ⟨c,m,rfl,m0,m1,q⟩;have mz:(0:Int)<(m:Nat):=by lia
 have sl:∀k,0<=yQ c k/\yQ c k<2000000000:=rG c;obtain⟨rm,jI,rme⟩ : ∃rm:Nat->Nat,(∀k,rm k<m)/\∀k,yQ c k%(m:Nat)=(rm k:Nat):=⟨λk=>(yQ c k%(m:Nat)).toNat,λk=>by
  have:=YY (yQ c k) mz;have:=Z3 (yQ c k) (show((m:Nat):Int)≠0 by exact WU mz);show(yQ c k%(m:Nat)).toNat<m;lia,λk=>by
  have:=Z3 (yQ c k) (show((m:Nat):Int)≠0 by exact WU mz);show _=((yQ c k%(m:Nat)).toNat:Int);lia⟩
 obtain⟨n6,e6,h6⟩ : ∃n6:Nat,yQ c 6%6=(n6:Nat)/\n6<6:=⟨(yQ c 6%6).toNat,by have:=sl 6;lia,by have:=sl 6;lia⟩;have x6:=gZ (c:=c) (n:=13) (k:=6);refine sq7 (λo=>∃(x3 x6 x7 x8:OT)(p:Rat)(prs:zh),o=[.fz (.int c),.fz (.int (m:Nat)),.fz (.lst ((iY c 13).map L2.T.int)),x3,.fz (frR p),.fz (.lst (prs.map nwT)),x6,x7,x8]/\LDk m ⟨min n6 4,p,prs⟩) ?_ λY go=>?_
 .rintro _ ⟨x3,x6',x7,x8,p,prs,rfl,hk⟩;refine⟨_,x6,by decide,?_⟩;have:=q ⟨min n6 4,p,prs⟩ hk;rw[show ldT ⟨min n6 4,p,prs⟩=.tup [.int (if(4:Int)<yQ c 6%6 then 4 else yQ c 6%6),frR p,.lst (prs.map nwT)]by
   show L2.T.tup [.int ((min n6 4:Nat):Int),_,_]=_;rw[e6,show((min n6 4:Nat):Int)=(if(4:Int)<((n6:Nat):Int)then(4:Int)else((n6:Nat):Int))by split<;>lia]]at this
  exact this
 .refine⟨c,13,rfl,by decide,?_⟩;have ec:fG ((iY c 13).map L2.T.int) (some 2) (some 6)=[2,3,4,5].map (λk=>L2.T.int (yQ c k)):=rfl;show(fG ((iY c 13).map L2.T.int) (some 2) (some 6)).length<=sizeLine/\iU _ _ _ _ (fG ((iY c 13).map L2.T.int) (some 2) (some 6)) _;rw[ec];refine⟨show 4<=sizeLine by decide,comp_map (λk=>L2.T.int (yQ c k)) (λk=>.int (rm k:Nat)) [2,3,4,5] (λk _ N M hN=>⟨mz,by rwa[rme]⟩) ?_⟩;have y0:=sl 0;have y1:=sl 1;refine⟨_,gZ (k:=0),by decide,_,gZ (k:=1),by decide,_,_,rfl,by lia,d7 wo,?_⟩;have hp:Pay (Rat.divInt (yQ c 0%61-30) (1+yQ c 1%12)):=by
   obtain⟨x,y⟩:=div_pos (a:=yQ c 0%61-30) (b:=1+yQ c 1%12) wo;exact⟨aL y wo,by lia⟩
  generalize Rat.divInt (yQ c 0%61-30) (1+yQ c 1%12)=p at hp ⊢;refine⟨_,rfl,_,x6,by decide,?_⟩;have no:∀{n:Nat}{d:Int},((n6:Nat):Int)≠d->decide (yQ c 6%6=d)=false:=λh=>Zp (by rwa[e6]);have ye:∀{d:Int},((n6:Nat):Int)=d->decide (yQ c 6%6=d)=true:=λh=>Zs (by rwa[e6]);obtain h0|rfl|rfl|rfl:(n6=0\/n6=4\/n6=5)\/n6=1\/n6=2\/n6=3:=by lia
  .refine swF (no (n:=0) wo) ⟨_,x6,by decide,swF (no (n:=0) wo) ⟨_,x6,by decide,swF (no (n:=0) wo) (go _ ⟨_,_,_,_,p,[(rm 2,1)],rfl,.sure wo (jI 2) hp⟩)⟩⟩
  .have x8:=sl 8;have x9:=sl 9;refine swT (ye rfl) ?_;refine⟨_,gZ (k:=8),by decide,_,gZ (k:=9),by lia,_,_,rfl,by lia,d7 wo,_,rfl,_,rfl,?_⟩;obtain⟨b,eb,b0,b1⟩ : ∃b:Int,1+yQ c 8%6=b/\0<b/\b<=6:=⟨_,rfl,by lia,by lia⟩;rw[eb];have a0:=Z3 (yQ c 9) (show b+1≠0 by lia);have a1:=YY (yQ c 9) (show 0<b+1 by exact Int.lt_trans b0 (Int.lt_succ _));generalize yQ c 9%(b+1)=a at a0 a1 ⊢;have nn:0<=Rat.divInt a b:=Rat.divInt_nonneg a0 (XY b0);have l1:0<=1-Rat.divInt a b:=by rw[one_sub (WU b0)];exact Rat.divInt_nonneg wo (XY b0)
   have dd:=O9 (a:=a) b0;generalize Rat.divInt a b=x at nn l1 dd ⊢;refine⟨_,x6,by decide,swF (no (n:=0) wp) ⟨_,x6,by decide,swF (no (n:=0) wp) (go _ ⟨.fz (.lst ([2,3,4,5].map λk=>L2.T.int (rm k:Nat))),.fz (.int b),.fz (frR x),.und,p,[(rm 2,x),(rm 3,1-x)],?_,LDk.toss (jI 2) (jI 3) hp nn l1 (show 0<b.toNat by lia) wo dd⟩)⟩⟩;rw[show[(rm 2,x),(rm 3,1-x)].map nwT=[.tup [.int (rm 2:Nat),frR x],.tup [.int (rm 3:Nat),frR (1-x)]]from rfl,acG]
   rfl
  .have x7:=sl 7;obtain⟨n,en,n0,n4⟩ : ∃n:Nat,1+yQ c 7%4=(n:Nat)/\0<n/\n<=4:=⟨(1+yQ c 7%4).toNat,by lia,by lia,by lia⟩;refine swF (no (n:=0) wp) ⟨_,x6,by decide,swT (ye rfl) ?_⟩;refine⟨_,gZ (k:=7),by decide,?_⟩;show(fG ([2,3,4,5].map λk=>L2.T.int (rm k:Nat)) none (some (1+yQ c 7%4))).length<=sizeLine/\iU _ _ _ _ (fG ([2,3,4,5].map λk=>L2.T.int (rm k:Nat)) none (some (1+yQ c 7%4))) _;have ec2:fG ([2,3,4,5].map λk=>L2.T.int (rm k:Nat)) none (some (1+yQ c 7%4))=(([2,3,4,5].map rm).take n).map λr:Nat=>L2.T.int (r:Nat):=by
    rw[en,Rq,List.map_take,WS]
    rfl
   have rl:(([2,3,4,5].map rm).take n).length=n:=by rw[aY];show min n 4=n;lia
   have rlt:∀r∈([2,3,4,5].map rm).take n,r<m:=λr hr=>by
    obtain⟨k,_,rfl⟩:=YV.mp (List.mem_of_mem_take hr);exact jI k
   rw[ec2];generalize([2,3,4,5].map rm).take n=rs at rl rlt ⊢;have r0:0<rs.length:=by lia
   have e2:(rs.map λr=>(r,mkRat 1 rs.length)).map nwT=rs.map λr=>nwT (r,mkRat 1 rs.length):=by rw[WS];rfl
   refine⟨by rw[ak];exact aL (show _<=4 by exact aL (WG rl) n4) wp,comp_map (λr:Nat=>L2.T.int (r:Nat)) (λr=>nwT (r,mkRat 1 rs.length)) rs (λr hr N M hN=>?_) ⟨_,x6,by decide,swF (no (n:=0) wp) (go _ ⟨.fz (.lst (rs.map λr:Nat=>L2.T.int (r:Nat))),.und,.und,.und,p,rs.map λr=>(r,mkRat 1 rs.length),by rw[e2];rfl,LDk.even r0 (aL (WG rl) n4) rlt hp⟩)⟩⟩;rw[show nwT (r,mkRat 1 rs.length)=.tup [.int (r:Nat),frR (mkRat 1 rs.length)]from rfl,WW r0,<- ak (f:=λr:Nat=>L2.T.int (r:Nat))]at hN;exact hN
  .have x7:=sl 7;have x12:=sl 12;obtain⟨n,en,n0,n4⟩ : ∃n:Nat,9+yQ c 7%4=((8+n:Nat):Int)/\0<n/\n<=4:=⟨(1+yQ c 7%4).toNat,by lia,by lia,by lia⟩;refine swF (no (n:=0) wp) ⟨_,x6,by decide,swF (no (n:=0) wp) ⟨_,x6,by decide,swT (ye rfl) ?_⟩⟩;refine⟨_,gZ (k:=7),by decide,?_⟩;show(fG ((iY c 13).map L2.T.int) (some 8) (some (9+yQ c 7%4))).length<=sizeLine/\iU _ _ _ _ (fG ((iY c 13).map L2.T.int) (some 8) (some (9+yQ c 7%4))) _;have ec3:fG ((iY c 13).map L2.T.int) (some 8) (some (9+yQ c 7%4))=(((iY c 13).drop 8).take n).map L2.T.int:=by
    rw[en,oh];have:=YM (ys:=iY c 13) (a:=8) (b:=8+n) (X1 _ _) (by rw[ak,WP];lia);rw[show 8+n-8=n by exact TW _ _]at this;exact ZH (List.map L2.T.int) this
   have ul:(((iY c 13).drop 8).take n).length=n:=by rw[aY,UZ,ak,WP];lia
   rw[ec3];generalize((iY c 13).drop 8).take n=us at ul ⊢;obtain⟨d,hd,ed⟩:=ain [3,3,3,1000] L2.T.int (i:=yQ c 12%4) (Z3 _ wp) (by show yQ c 12%4<4;exact YY _ wp);have d0:0<d/\d<=1000:=by simp at hd;lia
   refine⟨by rw[ak];exact aL (show _<=4 by exact aL (WG ul) n4) wp,comp_map L2.T.int (λx=>L2.T.int (x%d)) us (λx hx N M hN=>⟨_,gZ (k:=12),by decide,_,ed,d0.1,hN⟩) ?_⟩;have em:us.map (λx=>L2.T.int (x%d))=(us.map (· % d)).map L2.T.int:=by rw[WS];rfl
   rw[em];have wl:(us.map (· % d)).length=n:=by rwa[ak]
   have ww:∀w∈us.map (· % d),0<=w/\w<1000:=λw hw=>by
    obtain⟨x,_,rfl⟩:=YV.mp hw;have:=Z3 x (show d≠0 by lia);have:=YY x d0.1;lia
   generalize us.map (· % d)=ws at wl ww ⊢;obtain⟨vs,v,rfl⟩ : ∃vs v,ws=vs++[v]:=by
    rcases List.eq_nil_or_concat ws with rfl|⟨vs,v,e⟩
    .cases wl;cases n0
    .exact⟨vs,v,by rw[e,List.concat_eq_append]⟩
   rw[aA,List.length_singleton]at wl;have ixl:ixT ((vs++[v]).map L2.T.int) (-1)=some (.int v):=by
    show nth ((vs++[v]).map L2.T.int).reverse 0=_;rw[bf,List.reverse_append]
    rfl
   have ixn:ixN ((vs++[v]).map L2.T.int).length (-1)=some vs.length:=by
    unfold ixN;rw[ak,aA,List.length_singleton];rw[ZZ wp,ZY wo]
    congr 1
    lia
   refine⟨_,ixl,_,ixn,?_⟩;have es:((vs++[v]).map L2.T.int).set vs.length (.int (v+1))=(vs++[v+1]).map L2.T.int:=by
    rw[bf,bf,List.set_append_right _ _ (by rw[ak];exact aG _),ak,TR]
    rfl
   dsimp only[frz];rw[es];have lP:(vs++[v+1]).length=n:=by rwa[aA,List.length_singleton]
   have lI:∀w∈vs++[v+1],0<=w/\w<=1000:=λw hw=>by
    rcases Y1.mp hw with z|z
    .have:=ww w (U1 _ z);lia
    .have:=ww v (aP _ (YR.mpr rfl));rw[YR.mp z];lia
   have s0:0<(vs++[v+1]).sum:=by
    have:0<=vs.sum:=abd λw hw=>(ww w (U1 _ hw)).1;have:=(ww v (aP _ (YR.mpr rfl))).1;rw[List.sum_append];show 0<vs.sum+(v+1+0);lia
   have s1:(vs++[v+1]).sum<=1000*(vs++[v+1]).length:=abY λw hw=>(lI w hw).2;generalize vs++[v+1]=us at lP lI s0 s1 ⊢;have ul':(us.map L2.T.int).length=us.length:=ak ..;have r4:∀k,k<4->([2,3,4,5].map rm)[k]?=some (rm (k+2)):=λk hk=>by
    obtain rfl|rfl|rfl|rfl:k=0\/k=1\/k=2\/k=3:=by lia
    all_goals rfl
   have z:∀k(hk:k<us.length),((([2,3,4,5].map rm).zip us).map λx=>(x.1,Rat.divInt x.2 us.sum))[k]?=some (rm (k+2),Rat.divInt (us.getD k 0) us.sum):=λk hk=>by
    rw[aq,List.getElem?_zip_eq_some (z:=(rm (k+2),us.getD k 0)) |>.mpr ⟨r4 k wo,by rw[au,aj hk];rfl⟩]
    rfl
   have ep:(List.range (us.map L2.T.int).length).map (λk=>nwT (rm (k+2),Rat.divInt (us.getD k 0) us.sum))=((([2,3,4,5].map rm).zip us).map λx=>(x.1,Rat.divInt x.2 us.sum)).map nwT:=by
    refine List.ext_getElem? λk=>?_;rw[ul'];by_cases hk:k<us.length
    .rw[aq,VX hk,aq,z k hk]
     rfl
    .rw[aM (by rw[ak,WP];exact Up hk),aM (by rw[ak,ak,W1];omega)]
   refine⟨⟨by lia,by lia⟩,by rw[rng,ak,WP];exact aL (show _<=4 by lia) wp,P0 (λk=>nwT (rm (k+2),Rat.divInt (us.getD k 0) us.sum)) (us.map L2.T.int).length (λk hk N M hN=>?_) (go _ ⟨.fz (.lst ([2,3,4,5].map λk=>L2.T.int (rm k:Nat))),.und,.und,.fz (.lst (us.map L2.T.int)),p,(([2,3,4,5].map rm).zip us).map λx=>(x.1,Rat.divInt x.2 us.sum),by rw[ep];rfl,LDk.mix (rs:=[2,3,4,5].map rm) (aL (WG lP) n4) (λr hr=>?_) (λw hw=>(lI w hw).1) (show us.length<=4 by exact aL (WG lP) n4) s0 wo hp⟩)⟩
   .rw[ul']at hk;have ek:us[k]?=some (us.getD k 0):=by rw[au,aj hk];rfl
    have e4:=r4 k wo;rw[aq]at e4;refine⟨.int (rm (k+2):Nat),?_,_,dB ek,us,rfl,_,_,rfl,s0,d7 wo,hN⟩;show nth _ k=_;rw[sX,aq];cases z2:([2,3,4,5] : zD)[k]? with
    |none=>rw[z2]at e4;cases e4
    |some j=>rw[z2]at e4;injection e4 with e4;show some (L2.T.int (rm j:Nat))=_;rw[show rm j=rm (k+2)from e4]
   .obtain⟨k,_,rfl⟩:=YV.mp hr;exact jI k
structure DSk(m mo:Nat)(ae:zI):Prop where
 len:ae.length=m
 few:∀ds∈ae,ds.length<=mo
 ok:∀ds∈ae,∀d∈ds,LDk m d
abbrev dsT(ae:zI):wq:=ae.map λds=>ds.map ldT
abbrev XR(ae:zI):T:=.lst (ae.map λds=>.lst (ds.map ldT))
def adV(ae:zI):frz (.l2 (dsT ae))=XR ae:=by
 show L2.T.lst ((ae.map λds=>ds.map ldT).map L2.T.lst)=_;rw[WS]
 rfl
def DSk.add{mo:Nat}{ae:zI}(h:DSk m mo ae){ds:List LD}{d:LD}(e:ae[k]?=some ds)(lt:ds.length<mo)(hd:LDk m d):DSk m mo (ae.set k (ds++[d])):=by
 refine⟨by rw[WH,h.len],λx hx=>?_,λx hx y hy=>?_⟩
 .rcases List.mem_or_eq_of_mem_set hx with z|rfl
  .exact h.few x z
  .rw[aA,List.length_singleton];exact lt
 .rcases List.mem_or_eq_of_mem_set hx with z|rfl
  .exact h.ok x z y hy
  .rcases Y1.mp hy with z|z
   .exact h.ok ds (aC e) y z
   .rw[YR.mp z];exact hd
def ahC{ae:zI}{r:Nat}{ds:List LD}(e:ae[r]?=some ds):ixT ((dsT ae).map L2.T.lst) (r:Nat)=some (.lst (ds.map ldT)):=by
 show nth ((dsT ae).map L2.T.lst) r=_;rw[sX,aq,aq,e];rfl
def Vr:ST:=λts q=>∃(ns:xy)(a m mo:Nat),ts=[scT ns,.int (a:Nat),.int (m:Nat),.int (mo:Nat)]/\ns.length<=100/\m<=300/\mo<=1000/\∀ae:zI,DSk m mo ae->q (.l2 (dsT ae))
def adE(T:Tx D):gT 5 Kr wj Vr:=ya T.afU λF=>by
 refine F.okT Vu (λ_ _=>bF (aeX (bG HD) R8 R8 ["_law_k"] (dW T.fQ (bx wa bA)) (eF (i:=0)) cA (cF bA) (jU (i:=4) Vu.nd rfl (Or.inl rfl)))
  (bF (cC (b_ Nr wa bC)
  (bF (bQ 5 (bL cB (bI (aeN T) (bx wn (bx we bA))) bC))
  (bF (bQ 6 (bI (ZK T) (bx (qv 5) (bx (bL cB (bL cB (bL aeK (qv 5) bC) bC) (bL cD (bL cR bC wa) bC)) bA))))
  (bH (dU (cj (bL cD (qv 6) (fM wn (eU (bL cD we bC)) (eU (bL cD we bC))))) (bY (n:=99) 7)
  (bF (bQ 8 (bL cB (bJ (bI (ZK T) (bx (qv 7) (bx bC bA))) bC) wa))
  (bH (cC (KC 4 (b_ Cg (bM cI T.dI WJ (bx (bJ wE (qv 8)) bA)) wP))
  (bH (Zc 4 (qv 8) (bI (aeH T) (bx (qv 7) (bx wa bA)))))
  bR)))))))
  bR)
  (bH (ji 4)))) ?_
 rintro _ R ⟨ns,a,m,mo,rfl,nl,m1,mo1,q⟩;have e0:(List.range m).map (λ_=>([] : List L2.T))=dsT (List.replicate m []):=by
  unfold dsT;rw[List.map_replicate,List.map_const',WP]
  rfl
 have h0:DSk m mo (List.replicate m []):=⟨aN,λx hx=>by rw[(List.mem_replicate.mp hx).2];exact aZ _,λx hx y hy=>by rw[(List.mem_replicate.mp hx).2]at hy;cases hy⟩;refine⟨⟨by lia,by lia⟩,by rw[rng,ak,WP];exact aL m1 wp,VF (λ_=>[]) m (λk hk N M hN=>hN) ?_⟩;rw[e0];refine swD (λhm=>?_) λhm=>q _ h0;refine⟨ns,a,rfl,nl,by decide,?_⟩;dsimp only[frz];generalize ns.getD a 0%2147483647=fi;have mz:(0:Int)<2*(m:Nat)+1:=by lia
 obtain⟨n,en,n1⟩ : ∃n:Nat,fi*48271%104729%(2*(m:Nat)+1)=(n:Nat)/\n<=2*m:=⟨(fi*48271%104729%(2*(m:Nat)+1)).toNat,by
  have:=Z3 (fi*48271%104729) (show(2*(m:Nat)+1:Int)≠0 by exact WU mz);lia,by
  have:=YY (fi*48271%104729) mz;have:=Z3 (fi*48271%104729) (show(2*(m:Nat)+1:Int)≠0 by exact WU mz);lia⟩
 refine⟨.inr (by constructor<;>decide),by decide,⟨d7 wp,d7 wo⟩,mz,fi,n,by rw[en];rfl,by lia,?_⟩;have ec:(iY fi n).map L2.T.int++fG (ns.map L2.T.int) (some ((a:Nat)+1)) (some ((a:Nat)+13))=(iY fi n++fG ns (some ((a:Nat)+1)) (some ((a:Nat)+13))).map L2.T.int:=by rw[oh,bf]
 have cl:(fG ns (some ((a:Nat)+1)) (some ((a:Nat)+13))).length<=100:=by
  unfold fG;rw[aY,UZ];lia
 show((iY fi n).map L2.T.int).length+(fG (ns.map L2.T.int) (some ((a:Nat)+1)) (some ((a:Nat)+13))).length<=sizeLine/\_;refine⟨?_,?_⟩
 .rw[oh,ak,ak,ak,WP];exact aL (show _<=1100 by lia) wp
 dsimp only[frz];rw[ec];have sl:(iY fi n++fG ns (some ((a:Nat)+1)) (some ((a:Nat)+13))).length<=1100:=by rw[aA,ak,WP];lia
 generalize iY fi n++fG ns (some ((a:Nat)+1)) (some ((a:Nat)+13))=cs at sl ⊢;generalize iY fi n=ss at ec ⊢;refine fL L2.T.int cs (λ_ o=>∃(ae:zI)(x7 x8:OT),o=[.fz (scT ns),.fz (.int (a:Nat)),.fz (.int (m:Nat)),.fz (.int (mo:Nat)),.l2 (dsT ae),.fz (.int fi),.fz (.lst (ss.map L2.T.int)),x7,x8]/\DSk m mo ae) ⟨_,_,_,rfl,h0⟩ ?_ ?_
 .rintro done c rest _ _ ⟨ae,x7,x8,rfl,h⟩;dsimp only[hName];have mp:(0:Int)<(m:Nat):=by omega
  obtain⟨r,er0,lr0⟩ : ∃r:Nat,yQ c 13%(m:Nat)=(r:Nat)/\r<m:=by
   have h1:=Z3 (yQ c 13) (show((m:Nat):Int)≠0 by exact WU hm);have h2:=YY (yQ c 13) mp;exact⟨(yQ c 13%(m:Nat)).toNat,by lia,by lia⟩
  refine⟨c,14,rfl,by decide,_,gZ (k:=13),mp,?_⟩;dsimp only[frz];rw[er0];have lr:r<ae.length:=by rwa[h.len]
  have er:=aj lr;refine⟨_,ahC er,swD (λlt=>?_) λ_=>⟨ae,.fz (.int c),.fz (.int (r:Nat)),rfl,h⟩⟩;have lt:((ae[r].map ldT).length:Int)<(mo:Nat):=lt;rw[ak]at lt;refine⟨r,ae[r].map ldT,?_,by rw[aq,er];rfl,by rw[ak];exact aR (show _<1001 by lia) wp,c,m,rfl,by lia,by exact aL m1 wp,λd hd=>⟨ae.set r (ae[r]++[d]),.fz (.int c),.fz (.int (r:Nat)),?_,h.add er wo hd⟩⟩
  .unfold ixN;rw[ak,ZY (X9 _),ZY wo]
   rfl
  .rw[show dsT (ae.set r (ae[r]++[d]))=(dsT ae).set r (ae[r].map ldT++[ldT d])by
    unfold dsT;rw[Tu,bf]
    rfl]
   rfl
 .rintro _ ⟨ae,x7,x8,rfl,h⟩;exact q ae h
def oN(ws:zh)(p:Nat×Rat):zh:=if(ws.any λx=>decide (x.1=p.1))=true then ws.map (λx=>if x.1=p.1 then(x.1,x.2+p.2)else x)else ws++[p]
def gk(ps:zh):zh:=ps.foldl oN []
def mZ(ps:zh):zh:=(gk ps).filter λp=>!decide (p.2=0)
abbrev nmP(ns:Θ)(p:Nat×Rat):Str×Rat:=(ns.getD p.1 ⟨#[]⟩,p.2)
def RV(nd:ns.Nodup)(hi:i<ns.length)(hj:j<ns.length):(ns.getD i ⟨#[]⟩=ns.getD j ⟨#[]⟩)↔i=j:=by
 constructor
 .intro h;rw[au,au,aj hi,aj hj]at h;rcases Nat.lt_trichotomy i j with l|l|l
  .exact absurd h ((List.pairwise_iff_getElem.mp nd) i j hi hj l)
  .exact l
  .exact absurd h.symm ((List.pairwise_iff_getElem.mp nd) j i hj hi l)
 .intro h;rw[h]
def ahg(nd:ns.Nodup){p:Nat×Rat}(hw:∀w∈ws,w.1<ns.length)(hp:p.1<ns.length):addW (ws.map (nmP ns)) (nmP ns p)=(oN ws p).map (nmP ns):=by
 have an:((ws.map (nmP ns)).any λx=>decide (x.1=(nmP ns p).1))=ws.any λx=>decide (x.1=p.1):=by
  rw[UR];refine Bool.eq_iff_iff.mpr ⟨λh=>?_,λh=>?_⟩
  .obtain⟨x,hx,e⟩:=List.any_eq_true.mp h;exact List.any_eq_true.mpr ⟨x,hx,Zs ((RV nd (hw x hx) hp).mp (of_decide_eq_true e))⟩
  .obtain⟨x,hx,e⟩:=List.any_eq_true.mp h;exact List.any_eq_true.mpr ⟨x,hx,Zs ((RV nd (hw x hx) hp).mpr (of_decide_eq_true e))⟩
 unfold addW oN;rw[an];split
 .rw[WS,WS];refine UT λx hx=>?_;show(if(nmP ns x).1=(nmP ns p).1 then _ else _)=nmP ns (if x.1=p.1 then _ else _);by_cases e:x.1=p.1
  .rw[ZY e,ZY ((RV nd (hw x hx) hp).mpr e)]
  .rw[ZZ e,ZZ λz=>e ((RV nd (hw x hx) hp).mp z)]
 .rw[bf];rfl
def HY{p w:Nat×Rat}(h:w∈oN ws p):(w∈ws/\w.1≠p.1)\/w=p\/∃x∈ws,x.1=p.1/\w=(x.1,x.2+p.2):=by
 unfold oN at h;split at h
 .obtain⟨x,hx,rfl⟩:=YV.mp h;by_cases e:x.1=p.1
  .rw[ZY e];exact .inr (.inr ⟨x,hx,e,rfl⟩)
  .rw[ZZ e];exact .inl ⟨hx,e⟩
 .rename_i n
  rcases Y1.mp h with z|z
  .exact .inl ⟨z,λe=>n (List.any_eq_true.mpr ⟨w,z,Zs e⟩)⟩
  .exact .inr (.inl (YR.mp z))
def X6(nd:ns.Nodup)(h:∀p∈ps,p.1<ns.length):j6 (ps.map (nmP ns))=(gk ps).map (nmP ns):=by
 suffices H:∀(ps ws:zh),(∀p∈ps,p.1<ns.length)->(∀w∈ws,w.1<ns.length)->(ps.map (nmP ns)).foldl addW (ws.map (nmP ns))=(ps.foldl oN ws).map (nmP ns)from H ps [] h λ_ z=>(nomatch z)
 intro ps
 induction ps with
 |nil=>exact λ_ _ _=>rfl
 |cons p ps ih =>
  intro ws hp hw;rw[List.map_cons,List.foldl_cons,List.foldl_cons,ahg nd hw (hp p (aO ..))];refine ih _ (λq hq=>hp q (aJ _ hq)) λw hm=>?_;rcases HY hm with⟨z,_⟩|rfl|⟨x,hx,_,rfl⟩
  .exact hw w z
  .exact hp w (aO ..)
  .exact hw x hx
def afy(nd:ns.Nodup)(h:∀p∈ps,p.1<ns.length):Bt (ps.map (nmP ns))=(mZ ps).map (nmP ns):=by
 unfold Bt mZ;rw[X6 nd h,List.filter_map]
 rfl
def Qw(hq:0<q):r.den ∣ q↔∃x:Int,r=Rat.divInt x q:=by
 constructor
 .rintro⟨k,rfl⟩;refine⟨r.num*k,?_⟩;have hk:((k:Nat):Int)≠0:=λz=>by rw[show k=0 by lia]at hq;lia
  conv=>lhs;rw[<- rd r]
  refine(JP (oM r) (by push_cast;exact oV (oM r) hk)).mpr ?_
  push_cast
  grind
 .rintro⟨x,rfl⟩;have:=O9 (a:=x) (b:=(q:Nat)) wo;exact this
def K6{a b:Rat}(hq:0<q)(ha:a.den ∣ q)(hb:b.den ∣ q):(a+b).den ∣ q:=by
 obtain⟨x,rfl⟩:=(Qw hq).mp ha;obtain⟨y,rfl⟩:=(Qw hq).mp hb;have h0:((q:Nat):Int)≠0:=by lia
 refine(Qw hq).mpr ⟨x+y,?_⟩;rw[JJ _ _ h0 h0];refine(JP (oV h0 h0) h0).mpr ?_
 grind
structure JnI(m q:Nat)(as ws:zh):Prop where
 nd:(ws.map (·.1)).Nodup
 lt:∀w∈ws,w.1<m
 nn:∀w∈ws,0<=w.2
 dn:∀w∈ws,w.2.den ∣ q
 sum:∀y:Nat->Rat,dw ws y=dw as y
 few:ws.length<=as.length
def KR(as bs:zh)(y:Nat->Rat):dw (as++bs) y=dw as y+dw bs y:=by
 induction as with
 |nil=>show dw bs y=0+_;rw[TK]
 |cons a as ih=>rw[List.cons_append,dY,dY,ih,Rat.add_assoc]
def WQ(p:Nat×Rat)(y:Nat->Rat):dw [p] y=p.2*y p.1:=by rw[dY];show _+0=_;rw[Rat.add_zero]
def ag0{p:Nat×Rat}(nd:(ws.map (·.1)).Nodup)(y:Nat->Rat):dw (oN ws p) y=dw ws y+p.2*y p.1:=by
 unfold oN;split
 .rename_i h
  induction ws with
  |nil=>cases h
  |cons x ws ih =>
   obtain⟨n1,n2⟩:=List.nodup_cons.mp nd;rw[List.map_cons,dY,dY];by_cases e:x.1=p.1
   .rw[ZY e];have rest:ws.map (λx=>if x.1=p.1 then(x.1,x.2+p.2)else x)=ws:=by
     conv=>rhs;rw[<- List.map_id ws]
     refine UT λz hz=>?_;rw[ZZ λw=>n1 (YV.mpr ⟨z,hz,w.trans e.symm⟩)]
     rfl
    rw[rest,<- e];show(x.2+p.2)*y x.1+dw ws y=_
    grind
   .rw[ZZ e,ih n2 (by
     rw[List.any_cons,Zp e,Bool.false_or]at h;exact h)]
    grind
 .rw[KR,WQ]
def abN{p:Nat×Rat}(nd:(ws.map (·.1)).Nodup):((oN ws p).map (·.1)).Nodup:=by
 unfold oN;by_cases h:(ws.any λx=>decide (x.1=p.1))=true
 .rw[ZY h,WS];rw[show ws.map ((λx=>x.1) ∘ λx=>if x.1=p.1 then(x.1,x.2+p.2)else x)=ws.map (·.1)from UT λx _=>by show(if x.1=p.1 then(x.1,x.2+p.2)else x).1=x.1;split<;>rfl];exact nd
 .rw[ZZ h,bf];refine List.nodup_append.mpr ⟨nd,by simp,λa ha b hb z=>h ?_⟩;obtain⟨x,hx,rfl⟩:=YV.mp ha;rw[List.map_singleton,YR]at hb;exact List.any_eq_true.mpr ⟨x,hx,Zs (z.trans hb)⟩
def afi(hq:0<q){as:zh}{p:Nat×Rat}(hp:p.1<m/\0<=p.2/\p.2.den ∣ q)(h:JnI m q as ws):JnI m q (as++[p]) (oN ws p):=by
 refine⟨abN h.nd,λw hw=>?_,λw hw=>?_,λw hw=>?_,λy=>by rw[ag0 h.nd,h.sum,KR,WQ],?_⟩
 .rcases HY hw with⟨z,_⟩|rfl|⟨x,hx,_,rfl⟩
  .exact h.lt w z
  .exact hp.1
  .exact h.lt x hx
 .rcases HY hw with⟨z,_⟩|rfl|⟨x,hx,_,rfl⟩
  .exact h.nn w z
  .exact hp.2.1
  .have:=h.nn x hx;have:=hp.2.1;show 0<=x.2+p.2
   grind
 .rcases HY hw with⟨z,_⟩|rfl|⟨x,hx,_,rfl⟩
  .exact h.dn w z
  .exact hp.2.2
  .exact K6 hq (h.dn x hx) hp.2.2
 .have:=h.few;unfold oN;split
  .rw[ak,aA];exact aL this (X1 _ _)
  .rw[aA,aA];simp;omega
def EY(hq:0<q):∀{ps:zh},(∀p∈ps,p.1<m/\0<=p.2/\p.2.den ∣ q)->JnI m q ps (gk ps):=by
 intro ps h
 suffices H:∀(ps as ws:zh),(∀p∈ps,p.1<m/\0<=p.2/\p.2.den ∣ q)->JnI m q as ws->JnI m q (as++ps) (ps.foldl oN ws)from H ps [] [] h ⟨.nil,λ_ z=>(nomatch z),λ_ z=>(nomatch z),λ_ z=>(nomatch z),λ_=>rfl,aG _⟩
 intro ps
 induction ps with
 |nil=>intro as ws _ h;rwa[List.append_nil]
 |cons p ps ih =>
  intro as ws hp h;have:=ih (as++[p]) (oN ws p) (λx hx=>hp x (aJ _ hx)) (afi hq (hp p (aO ..)) h);rw[Wp]at this;exact this
theorem Fv(y:Nat->Rat):∀ws:zh,dw (ws.filter λp=>!decide (p.2=0)) y=dw ws y
 |[]=>rfl
 |w::ws=>by
  by_cases e:w.2=0
  .rw[List.filter_cons_of_neg (by rw[Zs e];decide),Fv y ws,dY,e,Rat.zero_mul,TK]
  .rw[List.filter_cons_of_pos (by rw[Zp e];rfl),dY,dY,Fv y ws]
def Pb(hq:0<q)(h:∀p∈ps,p.1<m/\0<=p.2/\p.2.den ∣ q):JnI m q ps (mZ ps):=by
 have j:=EY hq h;have sub:∀w∈mZ ps,w∈gk ps:=λw hw=>(List.mem_filter.mp hw).1;refine⟨(List.filter_sublist.map _).nodup j.nd,λw hw=>j.lt w (sub w hw),λw hw=>j.nn w (sub w hw),λw hw=>j.dn w (sub w hw),λy=>?_,aL (List.length_filter_le ..) j.few⟩;unfold mZ;rw[Fv,j.sum]
theorem m7{w:Nat×Rat} : ∀{ws:zh},(∀w∈ws,0<=w.2)->w∈ws->w.2<=dw ws λ_=>1
 |[],_,h=>by cases h
 |x::ws,nn,h=>by
  rw[dY];have n0:∀ws:zh,(∀w∈ws,0<=w.2)->0<=dw ws λ_=>1:=λws=>by
   induction ws with
   |nil=>intro _;exact VW
   |cons y ws ih =>
    intro h;rw[dY];have:=h y (aO ..);have:=ih λw hw=>h w (aJ _ hw)
    grind
  rcases YU.mp h with rfl|z
  .have:=n0 ws λw hw=>nn w (aJ _ hw)
   grind
  .have:=m7 (ws:=ws) (λw hw=>nn w (aJ _ hw)) z;have:=nn x (aO ..)
   grind
theorem zu:∀ps:zh,(dw ps λ_=>1)=CV (ps.map (·.2))
 |[]=>rfl
 |p::ps=>by
  rw[dY,zu ps,Rat.mul_one]
  rfl
def LDk.all{d:LD}(h:LDk m d):∃q:Nat,0<q/\q<=4000/\∀p∈d.prs,p.1<m/\0<=p.2/\p.2.den ∣ q:=by
 obtain⟨q,q0,q1,hq⟩:=h.dn;exact⟨q,q0,q1,λp hp=>⟨h.lt p hp,h.nn p hp,hq p hp⟩⟩
def abU(q0:0<q)(q1:q<=4000)(h0:0<=r)(h1:r<=1)(hd:r.den ∣ q):Ch r:=⟨h0,h1,d7 (by have:=UX q0 hd;lia)⟩
def LDk.prsOk{d:LD}(h:LDk m d)(hn:Nms ns m):Prs (d.prs.map (nmP ns)):=by
 obtain⟨q,q0,q1,hq⟩:=h.all;have le1:∀p∈d.prs,p.2<=1:=λp hp=>by
  rw[<- h.one,<- zu];exact m7 h.nn hp
 have few:=h.few;have m2:(d.prs.map (nmP ns)).map (·.2)=d.prs.map (·.2):=by rw[WS];rfl
 refine⟨by rw[ak];exact aL few wp,λp hp=>?_,?_,by rw[m2];exact h.one,λas a bs e=>?_⟩
 .obtain⟨x,hx,rfl⟩:=YV.mp hp;obtain⟨x1,x2,x3⟩:=hq x hx;have lx:x.1<ns.length:=by rwa[hn.len]
  refine⟨hn.wd _ ?_,abU q0 q1 x2 (le1 x hx) x3⟩;show ns.getD x.1 ⟨#[]⟩∈ns;rw[au,aj lx];exact aU lx
 .rw[m2];have:=Ar (d.prs.map (·.2)) (n:=1) (m:=q) (Nat.one_dvd _) λr hr=>by
   obtain⟨x,hx,rfl⟩:=YV.mp hr;exact(hq x hx).2.2
  have:=UX q0 this;exact d7 wo
 .obtain⟨ja,bs',e0,rfl,e2⟩:=List.map_eq_append_iff.mp e;obtain⟨a',cs',rfl,rfl,rfl⟩:=List.map_eq_cons_iff.mp e2;have sub:∀p∈ja,p∈d.prs:=λp hp=>e0 ▸ U1 _ hp;have ha:=hq a' (e0 ▸ aP _ (aO ..));have ca:Ch a'.2:=abU q0 q1 ha.2.1 (le1 a' (e0 ▸ aP _ (aO ..))) ha.2.2;have j:=EY q0 (ps:=ja) (m:=m) λp hp=>hq p (sub p hp);rw[X6 hn.nd λp hp=>by rw[hn.len];exact(hq p (sub p hp)).1];have cn:Ch (Bm ((gk ja).map (nmP ns)) (nmP ns a').1):=by
   unfold Bm;cases ef:((gk ja).map (nmP ns)).find? λx=>decide (x.1=(nmP ns a').1)with
   |none=>exact⟨VW,by show(0:Rat)<=1;decide,d7 wp⟩
   |some x =>
    obtain⟨y,hy,rfl⟩:=YV.mp (List.mem_of_find?_eq_some ef);refine abU q0 q1 (j.nn y hy) ?_ (j.dn y hy);have l1:=m7 j.nn hy;rw[j.sum]at l1;have l2:=h.one;rw[<- zu,e0,KR]at l2;have l3:0<=dw (a'::cs') λ_=>1:=by
     have:∀ws:zh,(∀w∈ws,0<=w.2)->0<=dw ws λ_=>1:=λws=>by
      induction ws with
      |nil=>intro _;exact VW
      |cons y ws ih =>
       intro h;rw[dY];have:=h y (aO ..);have:=ih λw hw=>h w (aJ _ hw)
       grind
     exact this _ λw hw=>h.nn w (e0 ▸ aP _ hw)
    show y.2<=1
    grind
  refine⟨cn.bq,ca.bq,?_⟩;have:=cn.2.2;have:=UX q0 ha.2.2;have pV:(Bm ((gk ja).map (nmP ns)) (nmP ns a').1).den<=4000:=by
   unfold Bm;cases ef:((gk ja).map (nmP ns)).find? λx=>decide (x.1=(nmP ns a').1)with
   |none=>exact UH rfl
   |some x =>
    obtain⟨y,hy,rfl⟩:=YV.mp (List.mem_of_find?_eq_some ef);have:=UX q0 (j.dn y hy);exact aL this q1
  refine d7 ?_;rw[VT,XT,XT];exact Y3 (VS pV (show a'.2.den<=4000 by exact aL this q1)) wp
def clsOf(D:Adr):Nat->Addr
 |1=>D.Toss
 |2=>D.Even
 |3=>D.Mixed
 |_=>D.Sure
abbrev afu(t:Str)(d:LD):bV:=⟨t,d.pay,mZ d.prs⟩
abbrev yR(D:Adr)(t:Str)(d:LD):Made:=⟨clsOf D d.sort,afu t d⟩
def ac4(D:Adr):∀k,dz D (clsOf D k)
 |0=>by unfold dz clsOf;simp
 |1=>by unfold dz clsOf;simp
 |2=>by unfold dz clsOf;simp
 |3=>by unfold dz clsOf;simp
 |_+4=>by unfold dz clsOf;simp
def Ux(D:Adr):ST:=λts q=>∃(t:Str)(d:LD)(ns:Θ)(m:Nat),ts=[.str t,ldT d,.lst (ns.map T.str)]/\Wd t/\Nms ns m/\LDk m d/\q (.fz (mdT ns (yR D t d)))
theorem ab0(T:Tx D):gT 8 JZ yw (Ux D):=ya T.af5 λF=>by
 refine F.okT Vm (λhr _=>bF (RX we (eX (n:=3) (bN (bY (n:=99) 4) (bN (bY (n:=99) 5) (bN (bY (n:=99) 6) c7)))))
  (bF (nU (bG Cd) Cm Cm ["_law_room","_law_chance"] (cj (qv 6)) (eX (n:=2) (bN (eF (i:=0)) (bN (eF (i:=1)) c7))) cA (dN (bx (bJ wE wn) (bx we bA))) (jU (i:=3) Vm.nd rfl (Or.inl rfl)))
  (bF (cC (b_ (yY hr.units) wE bC)
  (bH (bO (DR T.ad2 (Ri T) T.ahy (bx wn (bx (qv 5) (bx (bJ (bJ wP bC) bC) (bx (bJ (bJ wP bC) bC) (bx (bJ (bJ wP bC) bC) bA))))))))
  bR)
  (bF (cC (b_ (yY hr.units) wE bC)
  (bH (bO (DR T.afw (RM T) T.ahf (bx wn (bx (qv 5) (bx (dG (bG Cd) Cm Cm ["_law_room","_law_chance"] (cj wP) (eX (n:=2) (bN (eF (i:=0)) (bN (eF (i:=1)) c7))) cA wn) bA))))))
  bR)
  (bF (cC (b_ (yY hr.units) wE bC)
  (bH (bO (DR T.ab4 (M_ T) T.Sg (bx wn (bx (qv 5) (bx wP bA))))))
  bR)
  (bH (bO (DR T.aeJ (RD T) T.aiX (bx wn (bx (qv 5) (bx (bJ (bJ wP bC) bC) bA))))))))))) ?_
 rintro _ R ⟨t,d,ns,m,rfl,wt,hn,hd,q⟩;have few:=hd.few;have en:∀p∈d.prs,ixT (ns.map L2.T.str) (p.1:Nat)=some (.str (nmP ns p).1):=λp hp=>by
  have lp:p.1<ns.length:=by rw[hn.len];exact hd.lt p hp
  exact dB (by rw[aj lp];show _=some (ns.getD p.1 ⟨#[]⟩);rw[au,aj lp];rfl)
 have em:(d.prs.map (nmP ns)).map wyT=d.prs.map λp=>wyT (nmP ns p):=by rw[WS];rfl
 have pk:=hd.prsOk hn;have wk:=afy hn.nd (ps:=d.prs) λp hp=>by rw[hn.len];exact hd.lt p hp
 refine⟨rfl,by rw[ak];exact aL few wp,comp_map nwT (λp=>wyT (nmP ns p)) d.prs (λp hp N M hN=>⟨rfl,_,en p hp,hN⟩) ?_⟩;rw[<- em];obtain⟨so,pay,prs⟩:=d;have s4:so<5:=hd.sort;have s0:=hd.s0;have s1:=hd.s1;have s2:=hd.s2;dsimp only at *;obtain rfl|rfl|rfl|rfl|rfl:so=0\/so=4\/so=1\/so=2\/so=3:=by lia
 .obtain⟨a,rfl⟩:=s0 (.inl rfl);have e1:mZ [(a,1)]=[(a,1)]:=by simp[mZ,gk,oN]
  have q':R (.fz (drT D.Sure t pay ([(a,1)].map (nmP ns)))):=by rwa[<- e1]
  exact⟨_,rfl,t,_,pay,rfl,rfl,Uh D,rfl,wt,(pk.ok (nmP ns (a,1)) (YR.mpr rfl)).1,q'⟩
 .obtain⟨a,rfl⟩:=s0 (.inr rfl);have e1:mZ [(a,1)]=[(a,1)]:=by simp[mZ,gk,oN]
  have q':R (.fz (drT D.Sure t pay ([(a,1)].map (nmP ns)))):=by rwa[<- e1]
  exact⟨_,rfl,t,_,pay,rfl,rfl,Uh D,rfl,wt,(pk.ok (nmP ns (a,1)) (YR.mpr rfl)).1,q'⟩
 .obtain⟨a,b,x,rfl⟩:=s1 rfl;have q':R (.fz (drT D.Toss t pay (Bt ([(a,x),(b,1-x)].map (nmP ns))))):=by rwa[wk]
  exact⟨_,rfl,_,rfl,_,rfl,t,_,_,pay,x,rfl,rfl,acK D,rfl,wt,(pk.ok (nmP ns (a,x)) (aO ..)).2,pk,q'⟩
 .obtain⟨rs,rfl⟩:=s2 rfl;have q':R (.fz (drT D.Even t pay (Bt ((rs.map λr=>(r,mkRat 1 rs.length)).map (nmP ns))))):=by rwa[wk]
  have ev:even (((rs.map λr=>(r,mkRat 1 rs.length)).map (nmP ns)).map (·.1))=(rs.map λr=>(r,mkRat 1 rs.length)).map (nmP ns):=by
   have el:(((rs.map λr=>(r,mkRat 1 rs.length)).map (nmP ns)).map (·.1)).length=rs.length:=by simp
   unfold even;rw[el];simp[Function.comp_def]
  refine⟨by rw[ak,ak];exact aL few wp,comp_map wyT (λp=>.str p.1) ((rs.map λr=>(r,mkRat 1 rs.length)).map (nmP ns)) (λp hp N M hN=>⟨rfl,hN⟩) ⟨t,pay,((rs.map λr=>(r,mkRat 1 rs.length)).map (nmP ns)).map (·.1),rfl,rfl,abl D,?_,wt,by rw[ev];exact pk,?_⟩⟩
  .rw[show(((rs.map λr=>(r,mkRat 1 rs.length)).map (nmP ns)).map (·.1)).map L2.T.str=((rs.map λr=>(r,mkRat 1 rs.length)).map (nmP ns)).map λp=>L2.T.str p.1 from WS]
   rfl
  .rw[ev];exact q'
 .have q':R (.fz (drT D.Mixed t pay (Bt (prs.map (nmP ns))))):=by rwa[wk]
  exact⟨t,pay,prs.map (nmP ns),rfl,rfl,ZR D,rfl,wt,pk,q'⟩
structure Gk(ae:zI)(off:zi):Prop where
 len:off.length=ae.length
 at_:∀(k:Nat)ds os,ae[k]?=some ds->off[k]?=some os->∃tl:Θ,tl.length=ds.length/\os=(tl.zip ds).map λp=>afu p.1 p.2
theorem T4{α β:Type} : ∀{xs:List α}{ys:List β}{x:α}(y:β),xs[ys.length]?=some x->xs.zip (ys++[y])=xs.zip ys++[(x,y)]
 |[],ys,_,_,e=>by cases e
 |a::xs,[],x,y,e=>by cases e;simp
 |a::xs,b::ys,x,y,e=>by
  rw[List.cons_append,List.zip_cons_cons,List.zip_cons_cons,T4 (xs:=xs) (ys:=ys) y (by simpa using e)]
  rfl
def YF(D:Adr):ST:=λts q=>∃(c:Int)(s:Rat)(m mo:Nat)(ae:zI),ts=[.int c,frR s,XR ae]/\Shr s/\DSk m mo ae/\m<=26/\mo<=26/\∀ns off,Nms ns m->Fb ns off->Gk ae off->q (.fz (hlT D s ns off))
def aeG(T:Tx D):gT 9 O1 Cv (YF D):=ya T.aje λ{f fd}F=>by
 refine F.okT aeh (λ_ _=>bF (bQ 3 (bI (abu T) (bx wn (bx (bM cI T.dI WJ (bx wa bA)) bA))))
  (bF (iu 4 (cF bA))
  (bF (dU (dW T.fQ (bx (bM cI T.dI WJ (bx wa bA)) bA)) (bY (n:=99) 5)
  (bF (bQ 6 (bI (abu T) (bx (bL cD wn (qv 5)) (bx (bM cI T.dI WJ (bx (bJ wa (qv 5)) bA)) bA))))
  (bH (rR 4 (dN (bx (bJ wP (qv 5)) (bx (dG (bG Pa) W2 W2 ["_law_title","_law_door_here"] (JL T.Uo (bx (qv 6) (bx (bJ wa (qv 5)) bA))) (eX (n:=2) (bN (eF (i:=0)) (bN (eF (i:=1)) c7))) cA (bI (ab0 T) (bx wn (bx we (bx (qv 5) bA))))) bA)))))))
  (bH (Jh 4 (bO (DR T.afb (PL T) T.ag5 (bx we (bx wE bA))))))))) ?_
 rintro _ R ⟨c,s,m,mo,ae,rfl,hs,hd,m1,mo1,q⟩;have dl:(ae.map λds=>L2.T.lst (ds.map ldT)).length=m:=by rw[ak,hd.len]
 refine⟨c,m,by rw[<- dl];rfl,m1,λns hn=>?_⟩;have nl:=hn.len;have e0:Ay ns []=[]:=by simp[Ay]
 refine⟨⟨by rw[dl];lia,by rw[dl];lia⟩,mW (λk o=>∃(ms:xI)(x5 x6:OT),o=[.fz (.int c),.fz (frR s),.fz (XR ae),.fz (.lst (ns.map L2.T.str)),.l1 (Ay ns ms),x5,x6]/\ms.length=k/\∀(i:Nat)ds x,ae[i]?=some ds->ms[i]?=some x->∃tl,Nms tl ds.length/\x=(tl.zip ds).map λp=>yR D p.1 p.2) ⟨[],.und,.und,by rw[e0];rfl,rfl,λi ds x _ z=>by cases z⟩ ?_ ?_⟩
 .rintro k _ hk ⟨ms,x5,x6,rfl,lm,hm⟩;have hk:k<m:=by rw[dl]at hk;lia
  have lk:k<ae.length:=by rwa[hd.len]
  have ek:=aj lk;have mem:=aU lk;have fk:=hd.few _ mem;have kL:ixT (ae.map λds=>L2.T.lst (ds.map ldT)) (k:Nat)=some (.lst (ae[k].map ldT)):=dB ek;have nk:ns[k]?=some (ns.getD k ⟨#[]⟩):=by rw[au,aj wo];rfl
  refine⟨_,kL,c+k,ae[k].length,by rw[<- ak (as:=ae[k]) (f:=ldT)];rfl,by exact aL fk mo1,λtl ht=>?_⟩;refine⟨_,dB nk,_,kL,?_⟩;have zl:(tl.zip ae[k]).length<=26:=by rw[W1];lia
  show(Gw (tl.map L2.T.str) (ae[k].map ldT)).length<=sizeLine/\iU _ _ _ _ (Gw (tl.map L2.T.str) (ae[k].map ldT)) _;rw[Jp];refine⟨by rw[ak];exact aL zl wp,comp_map (λp=>.tup [.str p.1,ldT p.2]) (λp=>mdT ns (yR D p.1 p.2)) (tl.zip ae[k]) (λp hp N M hN=>⟨rfl,p.1,p.2,ns,m,rfl,ht.wd _ (US hp).1,hn,hd.ok _ mem _ (US hp).2,hN⟩) ⟨?_,ms++[(tl.zip ae[k]).map λp=>yR D p.1 p.2],.fz (.int (k:Nat)),.fz (.lst (tl.map L2.T.str)),?_,by rw[aA,lm];rfl,λi ds x e1 e2=>?_⟩⟩
  .rw[ak,W1];exact aR (show _<1000 by lia) wp
  .rw[show Ay ns (ms++[(tl.zip ae[k]).map λp=>yR D p.1 p.2])=Ay ns ms++[.tup [.str (ns.getD k ⟨#[]⟩),.lst ((tl.zip ae[k]).map λp=>mdT ns (yR D p.1 p.2))]]by
    unfold Ay;rw[T4 (x:=ns.getD k ⟨#[]⟩) _ (by rwa[lm]),bf,List.map_singleton]
    congr 2
    show rmT (_,((tl.zip ae[k]).map λp=>yR D p.1 p.2).map (mdT ns))=_;rw[WS]
    rfl]
   rfl
  .by_cases hi:i<ms.length
   .rw[aF hi]at e2;exact hm i ds x e1 e2
   .have li:=(ao.mp e2).1;rw[aA,List.length_singleton]at li;have:i=k:=by lia
    subst this;rw[aD (WG lm),show i-ms.length=0 by lia]at e2;cases e2;rw[ek]at e1;cases e1;exact⟨tl,ht,rfl⟩
 .rintro _ ⟨ms,x5,x6,rfl,lm,hm⟩;have lm:ms.length=m:=by rwa[lm]
  have all:∀x∈ms,∃ds∈ae,∃tl,Nms tl ds.length/\x=(tl.zip ds).map λp=>yR D p.1 p.2:=λx hx=>by
   obtain⟨i,hi⟩:=aV hx;have li:=(ao.mp hi).1;have ld:i<ae.length:=by rw[hd.len];exact aR li (WG lm)
   exact⟨_,aU ld,hm i _ x (aj ld) hi⟩
  have rk:agq D ns ms:=by
   refine⟨by rw[lm,nl],by lia,hn.wd,hn.nd,λx hx=>?_⟩;obtain⟨ds,fA,tl,ht,rfl⟩:=all x hx;have fd:=hd.few ds fA;have tll:=ht.len;refine⟨by rw[ak,W1];lia,λy hy=>?_,λy hy=>?_,?_⟩
   .obtain⟨p,_,rfl⟩:=YV.mp hy;exact ac4 D _
   .obtain⟨p,hp,rfl⟩:=YV.mp hy;have lk:=hd.ok ds fA p.2 (US hp).2;obtain⟨qq,q0,q1,hq⟩:=lk.all;have j:=Pb q0 hq;have:=j.few;have:=lk.few;exact⟨by show(mZ p.2.prs).length<=1000;lia,λw hw=>by rw[nl];exact j.lt w hw⟩
   .rw[WS];show((tl.zip ds).map λp=>p.1).Nodup;rw[List.map_fst_zip (WG tll)];exact ht.nd
  have bs:Bq s:=⟨d7 (by
   have h0:=Rat.num_nonneg.mpr hs.lo;have h1:=(Rat.lt_iff s 1).mp hs.hi;have h1:s.num*((1:Rat).den:Int)<(1:Rat).num*(s.den:Int):=h1;have:=hs.den;simp at h1;lia),d7 (by have:=hs.den;lia)⟩
  refine⟨s,ns,ms,rfl,rfl,rfl,rfl,hs.lo,hs.hi,bs,rk,q ns (offs ms) hn ⟨?_,by lia,λos nE=>?_⟩ ⟨?_,λk ds os e1 e2=>?_⟩⟩
  .rw[ak,lm,nl]
  .obtain⟨x,hx,rfl⟩:=YV.mp nE;rw[ak];exact(rk.mds x hx).few
  .rw[ak,lm,hd.len]
  .rw[aq]at e2;cases e3:ms[k]? with
   |none=>rw[e3]at e2;cases e2
   |some x =>
    rw[e3]at e2;cases e2;obtain⟨tl,ht,rfl⟩:=hm k ds x e1 e3;exact⟨tl,ht.len,WS⟩
open Rw (sg jx jd cu jM j4 Big)
def Lp{i:Int}(h:i.natAbs<=10^n)(hn:n<=2400):Bd i:=Y3 (aL h (XU wp hn)) (by decide +kernel)
def R4{A:Nat}(h1:r<=(A:Rat))(h2 : -(A:Rat)<=r):r.num.natAbs<=A*r.den:=by
 have a:=(Rat.le_iff r (A:Rat)).mp h1;have b:=(Rat.le_iff (-(A:Rat)) r).mp h2;have a:r.num*((1:Nat):Int)<=(A:Int)*(r.den:Int):=a;have b : -(A:Int)*(r.den:Int)<=r.num*((1:Nat):Int):=b;have c:((A*r.den:Nat):Int)=(A:Int)*r.den:=Int.natCast_mul ..;rw[Int.neg_mul]at b;omega
open Rw (sg jx jd cu jM j4 RG Big)
def Vv(f:Nat->Nat->Rat)(m:Nat):xp:=(List.range m).map λi=>(List.range m).map λj=>f i j
def Dw(f:Nat->Nat->Rat)(m:Nat):(Vv f m).length=m:=by unfold Vv;rw[ak,WP]
def abC{f:Nat->Nat->Rat} : ∀r∈Vv f m,r.length=m:=λr hr=>by
 obtain⟨i,_,rfl⟩:=YV.mp hr;rw[ak,WP]
abbrev Xq(f:Nat->Nat->Rat)(b:Nat->Rat)(m:Nat):xp:=Zy (Vv f m) ((List.range m).map b)
def wV(f:Nat->Nat->Rat)(b:Nat->Rat)(m:Nat):(Xq f b m).length=m:=by rw[TU,Dw,ak,WP,VU]
def RN{f:Nat->Nat->Rat}(h:i<m):(Xq f b m)[i]?=some (((List.range m).map λj=>f i j)++[b i]):=by
 unfold Xq Vv;rw[List.getElem?_zipWith,aq,VX h,aq,VX h]
 rfl
def I_{f:Nat->Nat->Rat}{r:xo}(hr:r∈Xq f b m):∃i,i<m/\r=((List.range m).map λj=>f i j)++[b i]:=by
 obtain⟨i,e⟩:=aV hr;have hi:i<m:=by have:=(ao.mp e).1;rw[wV]at this;exact this
 rw[RN hi]at e;exact⟨i,hi,(Option.some.inj e).symm⟩
def O4{f:Nat->Nat->Rat}(y:Nat->Rat):sg (λj=>(((List.range m).map λj=>f i j)++[b i]).getD j 0*y j) m=sg (λj=>f i j*y j) m/\(((List.range m).map λj=>f i j)++[b i]).getD m 0=b i:=by
 have l:((List.range m).map λj=>f i j).length=m:=by rw[ak,WP]
 refine⟨cu λj hj=>?_,?_⟩
 .rw[au,aF (by rwa[l]),aq,VX hj];rfl
 .rw[au,aD (by rw[l];exact aG _),l,TR];rfl
def anI{f:Nat->Nat->Rat}{y:Nat->Rat}(h:∀r∈Xq f b m,sg (λj=>r.getD j 0*y j) m=r.getD m 0):∀i,i<m->sg (λj=>f i j*y j) m=b i:=λi hi=>by
 have:=h _ (aC (RN hi));rw[(O4 y).1,(O4 y).2]at this;exact this
def akB{f:Nat->Nat->Rat}{A Q:Nat}{q:Nat->Nat}(few:m<=100)(hA:1<=A)(q0:∀i,i<m->0<q i/\q i<=Q)(hc:∀i j,i<m->j<m->(f i j).den ∣ q i/\(f i j).num.natAbs<=A*(f i j).den)(hb:∀i,i<m->(b i).den ∣ q i/\(b i).num.natAbs<=A*(b i).den)(hQ:1<=Q)(mb:(2*m*(A*Q))^m<=NN)(nn:A*Q<=NN)(inj:∀x:Nat->Rat,(∀i,i<m->sg (λj=>f i j*x j) m=0)->∀j,j<m->x j=0):Sys (Xq f b m) (A*Q):=by
 have all:∀i,i<m->∀c∈((List.range m).map λj=>f i j)++[b i],c.den ∣ q i/\c.num.natAbs<=A*c.den:=λi hi c dk=>by
  rcases Y1.mp dk with z|z
  .obtain⟨j,hj,rfl⟩:=YV.mp z;exact hc i j hi (List.mem_range.mp hj)
  .rw[YR.mp z];exact hb i hi
 refine⟨λr hr=>?_,by rw[wV];exact few,λr hr=>?_,λr hr c hm=>?_,Nat.mul_pos hA hQ,by rw[wV];exact mb,nn,?_⟩
 .obtain⟨i,hi,rfl⟩:=I_ hr;rw[wV,aA,ak,WP];rfl
 .obtain⟨i,hi,rfl⟩:=I_ hr;exact(afA hA (q0 i hi).1 (all i hi)).le (Nat.mul_le_mul_left _ (q0 i hi).2)
 .obtain⟨i,hi,rfl⟩:=I_ hr;obtain⟨a,c⟩:=all i hi c hm;exact bdN (aL c (aL (Nat.mul_le_mul_left _ (aL (UX (q0 i hi).1 a) (q0 i hi).2)) nn))
 .rw[wV];intro x h0 hx;refine inj x λi hi=>?_;have:=hx _ (aC (RN hi));have e:sg (λj=>(((List.range m).map λj=>f i j)++[b i]).getD j 0*x j) (m+1)=sg (λj=>(((List.range m).map λj=>f i j)++[b i]).getD j 0*x j) m+_*x m:=rfl;rw[e,h0 _ (aG _),Rat.mul_zero,Rat.add_zero,(O4 x).1]at this;exact this
open Rw (sg jx jd cu jM j4 Big)
structure WyZ(m:Nat)(o:bV):Prop where
 wy:WyO m o
 nd:(o.ways.map (·.1)).Nodup
 few:o.ways.length<=1000
 cq:∃q:Nat,0<q/\q<=4000/\∀w∈o.ways,w.2.den ∣ q
structure HlZ(ns:Θ)(off:zi):Prop where
 h:Fb ns off
 few:ns.length<=8
 z:∀ds∈off,∀o∈ds,WyZ ns.length o
abbrev cG(off:zi)(pl:zt)(k:Nat):xN:=(chO off pl).getD k none
def Qs{off:zi}{o:bV}(h:cG off pl k=some o):∃ds,off[k]?=some ds/\o∈ds:=by
 have h:(chO off pl).getD k none=some o:=h;cases e:pl[k]? with
 |none =>
  have:(chO off pl)[k]?=none:=aM (by unfold chO;rw[ak,UP];exact List.getElem?_eq_none_iff.mp e);rw[au,this]at h;cases h
 |some d =>
  rw[agy e]at h;cases d with
  |none=>cases h
  |some d =>
   have h:(off.getD k [])[d]?=some o:=h;rw[au]at h;cases eo:off[k]? with
   |none=>rw[eo]at h;cases h
   |some ds=>rw[eo]at h;exact⟨ds,rfl,aC h⟩
def HlZ.cw{off:zi}(h:HlZ ns off)(pl:zt):∀k,k<ns.length->∀o,cG off pl k=some o->WyO ns.length o:=λk _ o e=>by
 obtain⟨ds,ed,ho⟩:=Qs e;exact(h.z ds (aC ed) o ho).wy
theorem ado{m q:Nat}(q0:0<q)(j:Nat):∀{ws:zh},(∀w∈ws,0<w.2/\w.2.den ∣ q)->(tW ws j).den ∣ q/\0<=tW ws j/\tW ws j<=RZ ws
 |[],_=>⟨Nat.one_dvd _,VW,VW⟩
 |w::ws,h=>by
  obtain⟨a,b,c⟩:=ado (m:=m) q0 j (ws:=ws) λx hx=>h x (aJ _ hx);obtain⟨p,d⟩:=h w (aO ..);have e:tW (w::ws) j=(if w.1=j then w.2 else 0)+tW ws j:=rfl;rw[e,zK];split
  .refine⟨K6 q0 d a,by grind,by grind⟩
  .rw[TK];exact⟨a,b,by grind⟩
abbrev N40:Nat:=1*4000
def abQ(h:m<=8):(2*m*N40)^m<=10^39:=by
 obtain rfl|rfl|rfl|rfl|rfl|rfl|rfl|rfl|rfl:m=0\/m=1\/m=2\/m=3\/m=4\/m=5\/m=6\/m=7\/m=8:=by lia
 all_goals decide +kernel
def rgt(mk:xk)(k:Nat):Rat:=if mkG mk k then 1 else 0
def ac5{cs:xf}(hk:k<mk.length):(otw mk cs S).getD k none=if mkG mk k=false/\S k=true then cs.getD k none else none:=by
 unfold otw;rw[au,aq,VX hk]
 rfl
def X5{cs:xf} : (otw mk cs S).length=mk.length:=by unfold otw;rw[ak,WP]
def YK{cs:xf}{o:bV}(h:some o∈otw mk cs S):∃k,k<mk.length/\cs.getD k none=some o:=by
 obtain⟨k,hk,e⟩:=YV.mp h;split at e
 .exact⟨k,List.mem_range.mp hk,e⟩
 .cases e
def akN{off:zi}(h:HlZ ns off)(ml:mk.length=ns.length)(lf:Lfp false ns.length (mkG mk) (λk=>ldC (cG off pl k)) S):Sys (Xq (iy 1 (otw mk (chO off pl) S)) (rgt mk) ns.length) N40:=by
 have m8:=h.few;have cz:∀o,some o∈otw mk (chO off pl) S->WyZ ns.length o:=λo ho=>by
  obtain⟨k,_,e⟩:=YK ho;obtain⟨ds,ed,om⟩:=Qs e;exact h.z ds (aC ed) o om
 have zo:∀i,∀o,(otw mk (chO off pl) S).getD i none=some o->WyZ ns.length o:=λi o e=>cz o (by
  rw[au]at e;cases e2:(otw mk (chO off pl) S)[i]? with
  |none=>rw[e2]at e;cases e
  |some c =>
   rw[e2]at e;have e:c=some o:=e;rw[<- e];exact aC e2)
 have cell:∀i:Nat,∃q,0<q/\q<=4000/\(∀j,(iy 1 (otw mk (chO off pl) S) i j).den ∣ q/\(iy 1 (otw mk (chO off pl) S) i j).num.natAbs<=1*(iy 1 (otw mk (chO off pl) S) i j).den):=λi=>by
  have fin:∀{q:Nat}(r:Rat),0<q->r.den ∣ q->0<=r->r<=1->∀b:Bool,((if b=true then(1:Rat)else 0)-1*r).den ∣ q/\((if b=true then(1:Rat)else 0)-1*r).num.natAbs<=1*((if b=true then(1:Rat)else 0)-1*r).den:=λ{q}r q0 d r0 r1 b=>by
   have e:(if b=true then(1:Rat)else 0)-1*r=(if b=true then 1 else 0) + -r:=by grind
   rw[e];refine⟨K6 q0 (by cases b<;>exact Nat.one_dvd _) d,R4 (A:=1) ?_ ?_⟩
   .show _<=((1:Nat):Rat);rw[show((1:Nat):Rat)=1 from rfl];cases b<;>simp<;>grind
   .show -((1:Nat):Rat)<=_;rw[show((1:Nat):Rat)=1 from rfl];cases b<;>simp<;>grind
  have p4:∀j,iy 1 (otw mk (chO off pl) S) i j=(if(decide (j=i))=true then(1:Rat)else 0)-1*tW (ug ((otw mk (chO off pl) S).getD i none)) j:=λj=>by
   unfold iy;by_cases c:j=i
   .rw[ZY c,ZY (Zs c)]
   .rw[ZZ c,ZZ (by rw[Zp c];decide)]
  cases e:(otw mk (chO off pl) S).getD i none with
  |none=>exact⟨1,by decide,by decide,λj=>by rw[p4,e];exact fin 0 wp (Nat.dvd_refl 1) VW wp _⟩
  |some o =>
   obtain⟨wy,_,_,q,q0,q1,hq⟩:=zo i o e;refine⟨q,q0,q1,λj=>?_⟩;obtain⟨a,b,c⟩:=ado (m:=0) q0 j (ws:=o.ways) λw hw=>⟨wy.pos w hw,hq w hw⟩;rw[wy.one]at c;rw[p4,e];exact fin _ q0 a b c _
 have hq:∃q:Nat->Nat,∀i,0<q i/\q i<=4000/\(∀j,(iy 1 (otw mk (chO off pl) S) i j).den ∣ q i/\(iy 1 (otw mk (chO off pl) S) i j).num.natAbs<=1*(iy 1 (otw mk (chO off pl) S) i j).den):=⟨λi=>Classical.choose (cell i),λi=>Classical.choose_spec (cell i)⟩;obtain⟨q,hq⟩:=hq;have NL:10^39<=NN:=XU wp wp;refine akB (q:=q) (A:=1) (Q:=4000) (aL m8 wp) wp (λi _=>⟨(hq i).1,(hq i).2.1⟩) (λi j _ _=>(hq i).2.2 j) (λi _=>?_) wp (aL (abQ m8) NL) (aL wp NL) λx hx=>?_
 .unfold rgt;split
  .exact⟨Nat.one_dvd _,aG _⟩
  .exact⟨Nat.one_dvd _,aZ _⟩
 .refine aiQ lf (h.cw pl) λk hk=>?_;have ol:(otw mk (chO off pl) S).length=ns.length:=by rw[X5,ml]
  have:=hx k hk;rw[<- ol,adi (by rwa[ol]) λw hw=>by
   rw[ol];cases e:(otw mk (chO off pl) S).getD k none with
   |none=>rw[e]at hw;cases hw
   |some o=>rw[e]at hw;exact(zo k o e).wy.lt w hw,ac5 (by rwa[ml])]at this
  by_cases c:mkG mk k=false/\S k=true
  .rw[ZY c]at this ⊢;have this:x k-1*dw (ug (cG off pl k)) x=0:=this
   grind
  .rw[ZZ c]at this ⊢;have this:x k-1*(0:Rat)=0:=this
   grind
def ahB(mk:xk):(mk.map λb=>frR (if b then 1 else 0))=((List.range mk.length).map (rgt mk)).map frR:=by
 rw[WS];refine UV (by rw[ak,ak,WP]) λk h1 h2=>?_;rw[ak]at h1;rw[VZ,VZ,UK];show frR _=frR (if mk.getD k false then 1 else 0);rw[au,aj h1]
 rfl
def iQ(D:Adr):ST:=λts q=>∃(s:Rat)(ns:Θ)(off:zi)(mk:xk)(pl:zt),ts=[hlT D s ns off,blT mk,.lst (pl.map dT)]/\HlZ ns off/\mk.length=ns.length/\PlT off pl/\∀(S:Nat->Bool)(x:Nat->Rat),BL ns.length (mkG mk) (cG off pl) S x->(∀i,i<ns.length->FnB (10^39) (x i))->q (.l1 ((List.range ns.length).map λi=>frR (x i)))
def GJ(T:Tx D):gT 9 gF eG (iQ D):=ya T.K_ λ{f fd}F=>by
 refine F.okT vL (λ_ _=>bF (nU (bG mG) qN qN ["mark"] (cj we) (eF (i:=0)) cA (NT (cY wn) (lU T.zT T.sV) (lU T.kE T.i_)) (jU (i:=3) vL.nd rfl (Or.inl rfl)))
  (bH (bO (bI (Jz T) (bx (bI (Ro T) (bx (lU T.zT T.sV) (bx (bI (Lw T) (bx we (bx (bI (Gz T) (bx wn (bx wa bA))) bA))) bA))) (bx wP bA)))))) ?_
 rintro _ R ⟨s,ns,off,mk,pl,rfl,h,ml,hp,q⟩;have m8:=h.few;have cl:(chO off pl).length=ns.length:=by rw[ahG hp,h.h.len]
 refine⟨by rw[ak,ml];exact aL m8 wp,comp_map L2.T.bl (λb=>frR (if b then 1 else 0)) mk (λb _ N M hN=>by cases b<;>exact hN) ?_⟩;refine⟨s,ns,off,pl,rfl,h.h,hp,mk,chO off pl,rfl,by lia,by rw[cl,ml],λo ho=>?_,λS lf=>?_⟩
 .obtain⟨k,ek⟩:=aV ho;obtain⟨ds,ed,om⟩:=Qs (k:=k) (show(chO off pl).getD k none=some o by rw[au,ek];rfl);have z:=h.z ds (aC ed) o om;exact⟨z.few,by rw[ml];exact z.wy.lt⟩
 have lf:Lfp false ns.length (mkG mk) (λk=>ldC (cG off pl k)) S:=by rw[ml]at lf;exact lf
 have ol:(otw mk (chO off pl) S).length=ns.length:=by rw[X5,ml]
 have cz:∀c∈otw mk (chO off pl) S,∀o,c=some o->WyZ ns.length o:=λc hc o e=>by
  subst e;obtain⟨k,_,e⟩:=YK hc;obtain⟨ds,ed,om⟩:=Qs e;exact h.z ds (aC ed) o om
 have b1:Bq (1:Rat):=bq1;have sys:=akN h ml lf;refine⟨1,otw mk (chO off pl) S,rfl,by lia,b1,λc hc=>?_,Vv (iy 1 (otw mk (chO off pl) S)) ns.length,(List.range mk.length).map (rgt mk),N40,?_,by rw[ak,WP,Dw,ml],by rw[Dw];exact abC,?_,?_⟩
 .rw[ol];cases c with
  |none=>exact⟨.nil,aZ _,λ_ z=>(nomatch z),λ_ z=>(nomatch z)⟩
  |some o =>
   have z:=cz _ hc o rfl;obtain⟨q,q0,q1,hq⟩:=z.cq;refine⟨z.nd,z.few,z.wy.lt,λw hw=>?_⟩;have d:=UX q0 (hq w hw);have w1:w.2<=1:=by
    have:=m7 (λw hw=>Rat.le_of_lt (z.wy.pos w hw)) hw;rw[<- Hx,z.wy.one]at this;exact this
   have n:=R4 (r:=w.2) (A:=1) w1 (by have:=z.wy.pos w hw;rw[show((1:Nat):Rat)=1 from rfl];grind);have bw:Bq w.2:=⟨d7 wo,d7 wo⟩;refine⟨bw,?_,by rwa[Rat.one_mul]⟩;show Bd (((1:Nat):Int)*_);rw[show((1:Nat):Int)=1 from rfl,TZ];exact bw.2
 .show[L2.T.lst ((yT (iy 1 (otw mk (chO off pl) S)) (otw mk (chO off pl) S).length).map L2.T.lst),L2.T.lst (mk.map λb=>frR (if b then 1 else 0))]=_;rw[aob,ahB,show ad3 1 (otw mk (chO off pl) S)=Vv (iy 1 (otw mk (chO off pl) S)) ns.length by unfold ad3 Vv;rw[ol]]
 .rw[ml];exact sys
 .rw[Dw,ml];intro y h1 h2;have eq:=anI (f:=iy 1 (otw mk (chO off pl) S)) (b:=rgt mk) (m:=ns.length) h1;have val:∀k,k<ns.length->y k=rgt mk k+if mkG mk k=false/\S k=true then dw (ug (cG off pl k)) y else 0:=λk hk=>by
   have:=eq k hk;rw[<- ol,adi (by rwa[ol]) λw hw=>by
    rw[ol];cases e:(otw mk (chO off pl) S).getD k none with
    |none=>rw[e]at hw;cases hw
    |some o =>
     rw[e]at hw;rw[au,aj (by rwa[ol])]at e;exact(cz _ (aU _) o e).wy.lt w hw,ac5 (by rwa[ml])]at this
   by_cases c:mkG mk k=false/\S k=true
   .rw[ZY c]at this ⊢;have this:y k-1*dw (ug (cG off pl k)) y=rgt mk k:=this
    grind
   .rw[ZZ c]at this ⊢;have this:y k-1*(0:Rat)=rgt mk k:=this
    grind
  refine q S y ⟨lf,λk hk g=>?_,λk hk g s=>?_,λk hk s=>?_⟩ λi hi=>⟨aL (h2 i hi).n (abQ m8),aL (h2 i hi).d (abQ m8)⟩
  .rw[val k hk,ZZ (by rw[g];exact λz=>Bool.noConfusion z.1)];unfold rgt;rw[g];show(1:Rat)+0=1
   grind
  .have v:=val k hk;rw[ZY ⟨g,s⟩]at v;unfold rgt at v;rw[g]at v;have v:y k=0+_:=v
   grind
  .have g:mkG mk k=false:=by
    cases g:mkG mk k with
    |false=>rfl
    |true=>rw[lf.base k hk g]at s;cases s
   have v:=val k hk;rw[ZZ (by rw[s];exact λz=>Bool.noConfusion z.2)]at v;unfold rgt at v;rw[g]at v;have v:y k=0+0:=v
   grind
def Tz:ST:=λts q=>∃i:Int,ts=[.int i]/\q (.fz (.bl true))
def aa1(T:Tx D):gT 1 Je yO Tz:=ya T.ad4 λF=>by
 refine F.okT abL (λ_ _=>bH (bO (Ey (nu .int wn T.cH T.abS boot_int) (Ew (adk (nu .bool wn T.cH T.Pn boot_bool)))))) ?_;rintro _ R ⟨i,rfl,q⟩;exact q
def xW:ST:=λts q=>∃r:Rat,ts=[frR r]/\q (.fz (.bl true))
def IV(T:Tx D):gT 2 qT jr xW:=ya T.Mx λF=>by
 refine F.okT Ji (λhr _=>bF (cC (QW.qt (kJ (dZ (cY (nu .tuple wn T.cH T.Sw boot_tuple))) (iC (b_ (lN hr.units) (bM cI T.dI WJ (bx wn bA)) bC))))
  (bH (bO gW))
  bR)
  (bF (cC (QW.qt (kJ (dZ (cY (bI (aa1 T) (bx (bJ wn bC) bA)))) (iC (dZ (cY (bI (aa1 T) (bx (bJ wn bC) bA)))))))
  (bH (bO gW))
  bR)
  (bH (bO (Ey (qR Nr (bJ wn bC) bC) (Ew (qR (yY hr.units) (bI (ah9 T) (bx (bJ wn bC) (bx (bJ wn bC) bA))) bC))))))) ?_
 rintro _ R ⟨r,rfl,q⟩;have:=r.den_pos;refine⟨_,rfl,_,rfl,swT (Zs wo) ⟨_,_,rfl,?_⟩⟩;rwa[show Int.gcd r.num r.den=1 from r.reduced]
def Bp:ST:=λts q=>∃(rs:xo)(m:Nat),ts=[.lst (rs.map frR),.int (m:Nat)]/\rs.length=m/\m<=1000/\q (.fz (.bl true))
def Px(T:Tx D):gT 3 vg mL Bp:=ya T.Uz λF=>by
 refine F.okT QC (λhr _=>bF (cC (QW.qt (kJ (dZ (cY (nu .list wn T.cH T.qH boot_list))) (iC (b_ (lN hr.units) (bM cI T.dI WJ (bx wn bA)) we))))
  (bH (bO gW))
  bR)
  (bH (bO (bM (aa4 rfl) T.agk boot_all (bx (dG (bG rA) yG yG ["_law_one"] (cj wn) (eF (i:=0)) cA (bI (IV T) (bx wn bA))) bA))))) ?_
 rintro _ R ⟨rs,m,rfl,hl,hm,q⟩;refine swF (by rw[ak,hl,Zs rfl];rfl) ⟨by rw[ak,hl];exact aL hm wp,comp_map frR (λ_=>.bl true) rs (λr _ N M hN=>⟨r,rfl,hN⟩) ⟨rs.map λ_=>true,by rw[WS];rfl,?_⟩⟩;have e:((rs.map λ_=>true).all λb=>b)=true:=by simp
 rw[<- e]at q;exact q
def Vt:ST:=λts q=>∃(c:Int)(m:Nat),ts=[.int c,.int (m:Nat)]/\m<=8/\∀gs:zD,gs.length<=9->(∀g∈gs,g<m)->q (.l1 (gs.map inT))
def acD(T:Tx D):gT 2 Kw xR Vt:=ya T.afZ λF=>by
 refine F.okT adw (λhr _=>bF (cC (b_ (yY hr.units) we bC)
  (bH (bO (cF bA)))
  bR)
  (bF (bQ 2 (bI (ZK T) (bx wn (bx bC bA))))
  (bH (bO (dG (bG Hy) Pg Pg ["_law_x"] (cj (fM wa (eU bC) (eU (bL cD bC (bL cB (bJ wa bC) (bJ (cF (bx bC (bx bC (bx bC (bx bC bA))))) (bL cB (bJ wa bC) bC))))))) (eF (i:=0)) cA (bL cB wn wa)))))) ?_
 rintro _ R ⟨c,m,rfl,hm,q⟩;refine swD (λz=>q [] wp λg hg=>(nomatch hg)) λz=>?_;refine⟨c,9,rfl,by decide,?_⟩;obtain⟨d,ed,hd⟩ : ∃d:Int,ixT [L2.T.int 4,L2.T.int 4,L2.T.int 4,L2.T.int 8] (yQ c 8%4)=some (.int d)/\0<d:=by
  rcases(show yQ c 8%4=0\/yQ c 8%4=1\/yQ c 8%4=2\/yQ c 8%4=3 by lia)with z|z|z|z<;>rw[z]
  .exact⟨4,rfl,by decide⟩
  .exact⟨4,rfl,by decide⟩
  .exact⟨4,rfl,by decide⟩
  .exact⟨8,rfl,by decide⟩
 refine⟨_,rfl,_,rfl,by decide,_,ed,hd,?_⟩;show(fG ((iY c 9).map L2.T.int) (some 1) (some (1+yQ c 0%d))).length<=sizeLine/\iU _ _ _ _ (fG ((iY c 9).map L2.T.int) (some 1) (some (1+yQ c 0%d))) _;generalize 1+yQ c 0%d=u;rw[oh];have l9:(fG (iY c 9) (some 1) (some u)).length<=9:=by
  unfold fG;rw[aY,UZ];have:(iY c 9).length=9:=rfl;lia
 refine⟨by rw[ak];exact aL l9 wp,comp_map L2.T.int (λx:Int=>.int (x%((m:Nat):Int))) _ (λx _ N M hN=>⟨by lia,hN⟩) ?_⟩;have e:(fG (iY c 9) (some 1) (some u)).map (λx:Int=>L2.T.int (x%((m:Nat):Int)))=((fG (iY c 9) (some 1) (some u)).map λx:Int=>(x%((m:Nat):Int)).toNat).map inT:=by
  rw[WS];refine UT λx _=>?_;show L2.T.int _=L2.T.int _;rw[QP (Z3 _ (by omega))]
 rw[e];refine q _ (by rwa[ak]) λg hg=>?_;obtain⟨x,_,rfl⟩:=YV.mp hg;have:=YY x (show(0:Int)<(m:Nat)by lia);have:=Z3 x (show((m:Nat):Int)≠0 by omega);lia
def ah2{mo:Nat}{ae:zI}{off:zi}(hn:ns.length=m)(m8:m<=8)(h:Fb ns off)(hd:DSk m mo ae)(ho:Gk ae off):HlZ ns off:=by
 refine⟨h,by exact aL (WG hn) m8,λos nE o hmo=>?_⟩;obtain⟨k,ek⟩:=aV nE;have lk:k<ae.length:=by rw[<- ho.len];exact(ao.mp ek).1
 obtain⟨tl,_,rfl⟩:=ho.at_ k _ os (aj lk) ek;obtain⟨p,hp,rfl⟩:=YV.mp hmo;have lk:=hd.ok _ (aU lk) p.2 (US hp).2;obtain⟨q,q0,q1,hq⟩:=lk.all;have j:=Pb q0 hq;have f1:=j.few;have f2:=lk.few;refine⟨⟨λw hw=>by rw[hn];exact j.lt w hw,λw hw=>?_,?_⟩,j.nd,by show(mZ p.2.prs).length<=1000;lia,q,q0,q1,j.dn⟩
 .have nn:=j.nn w hw;have ne:w.2≠0:=λz=>by
   have:=(List.mem_filter.mp (show w∈(gk p.2.prs).filter λp=>!decide (p.2=0)from hw)).2;rw[Zs z]at this;cases this
  exact Rat.not_le.mp λz=>ne (Rat.le_antisymm z nn)
 .show RZ (mZ p.2.prs)=1;rw[Hx,j.sum,zu,lk.one]
def J1(T:Tx D):OkI P w K mg base CX0 1 D.NoPlan_init jG (acy D.NoPlan "room"):=yf T.Jc λF=>by
 refine F.okB Jf ?_ ?_
 .rintro _ _ _ _ ⟨a,v,rfl,_⟩;rfl
 .rintro ai A outer s H _ Q E hr ⟨a,v,rfl,ha,q⟩;refine⟨_,(Oc (PSB.mk (k_ (TY T.ib_HallError T.xi_NoPlan (by rfl) T.yE (cQ (pv 0) (cQ Lb jB)))))
   (UW (PSB.mk (YD (pv 0) (pv 1) rfl)))),?_⟩
  exact⟨_,rfl,a,[_],rfl,ha,by decide,_,rfl,_,rfl,a,D.NoPlan,rfl,ha,T.xs_NoPlan,T.zq,q⟩
def Ia(t:L2.T)(n:Nat):xS:=if n=0 then match t with|.non=>some true|.any=>none|.val _=>none|_=>some false else match t with|.int k=>some (decide (0<=k)&&decide (k<n))|_=>(isW t).map λ_=>false
def SQ:ST:=λts q=>∃(t:L2.T)(n:Nat)(b:Bool),ts=[t,.int n]/\Ia t n=some b/\q (.fz (.bl b))
def ab9(T:Tx D):gT 2 CJ vq SQ:=ya T.acv λF=>by
 refine F.okT Za (λhr _=>bF (cC (b_ (yY hr.units) we bC)
  (bH (bO (qR Bj wn fY)))
  bR)
  (bH (bO (Ey (bI (Vn T) (bx wn bA)) (Ew (Kg JF Cg bC wn we)))))) ?_
 rintro _ R ⟨t,n,b,rfl,hb,q⟩;by_cases e:n=0
 .subst e;cases t<;>cases hb<;>exact q
 .refine swF (Zp wo) ?_;unfold Ia at hb;rw[ZZ e]at hb;cases t with
  |int k =>
   cases hb;refine⟨_,_,rfl,rfl,?_⟩;show sw (decide (0<=k)) (R (.fz (.bl (decide (k<(n:Int)))))) (R (.fz (.bl false)));by_cases k0:0<=k
   .rw[Zs k0,Bool.true_and]at q;exact swT (Zs k0) q
   .rw[Zp k0,Bool.false_and]at q;exact swF (Zp k0) q
  |_=>cases hb<;>exact⟨_,_,rfl,rfl,q⟩
inductive PlX(off:zi):L2.T->L2.T->Prop
 |kind {t:L2.T} : isK .list t=some false->PlX off t .non
 |len {ts:List L2.T} : ts.length≠off.length->PlX off (.lst ts) .non
 |at{ts:List L2.T}{k:Nat}{t:L2.T}{ds:List bV} : ts.length=off.length->(∀(j:Nat)(u:L2.T)(es:List bV),j<k->ts[j]?=some u->off[j]?=some es->Ia u es.length=some true)->ts[k]?=some t->off[k]?=some ds->Ia t ds.length=some false->PlX off (.lst ts) (.int k)
def mD(D:Adr):SX:=λts _ z=>∃(s:Rat)(ns:Θ)(off:zi)(v w:L2.T),ts=[hlT D s ns off,v]/\Fb ns off/\PlX off v w/\z D.NoPlan ["room"] [w]
def IW(T:Tx D):Uj P w K mg base 4 gP fB (mD D):=yi T.DW λF=>by
 refine F.okTX Af (λhr _=>bF (cC (QW.qt (kJ (dZ (cY (nu .list we T.cH T.qH boot_list))) (iC (b_ (lN hr.units) (bM cI T.dI WJ (bx we bA)) (pW wn T.g_ T.jP (QZ T) (KS:=jg))))))
  (bH (Jr rfl T.Cj T.xi_NoPlan (J1 T) fY))
  bR)
  (bF (dU (vA T.jD (bx we bA)) (eX (n:=2) (bN (bY (n:=99) 2) (bN (bY (n:=99) 3) c7)))
  (bH (cC (dZ (cY (bI (ab9 T) (bx wP (bx (bM cI T.dI WJ (bx (DQ wn T.g_ T.ql (aae T) (bx wa bA) (KS:=jg)) bA)) bA)))))
  (bH (Jr rfl T.Cj T.xi_NoPlan (J1 T) wa))
  bR)))
  (bH (bO gW)))) ?_
 rintro _ R Z ⟨s,ns,off,v,w,rfl,h,hp,q⟩;cases hp with
 |kind e =>
  cases v<;>first|exact q|cases e
 |len e =>
  refine⟨⟨rfl,rfl⟩,_,_,_,rfl,swT ?_ ?_⟩
  .have hl:=h.len;rw[Zp (λz=>e wo)]
   rfl
  .exact q
 |@«at» us k t ds l hf et eo ef =>
  refine⟨⟨rfl,rfl⟩,_,_,_,rfl,swF ?_ ?_⟩
  .show xr true (decide (((us.length:Nat):Int)=(ns.length:Nat)))=false;rw[l,h.len,Zs rfl]
   rfl
  .have hk:k<us.length:=(ao.mp et).1;rw[show us=us.map λt=>t from(List.map_id' us).symm];refine zH (λt=>t) us (λj o=>j<=k/\∃x y,o=[.fz (hlT D s ns off),.fz (.lst (us.map λt=>t)),x,y]) ⟨aZ _,_,_,rfl⟩ ?_ ?_
   .rintro j u _ e ⟨jk,x,y,rfl⟩;have lj:j<off.length:=by rw[<- l];exact(ao.mp e).1
    have ej:=aj lj;by_cases c:j=k
    .subst c;rw[et]at e;cases e;rw[eo]at ej;have ds':(off[j]).length=ds.length:=by rw[Option.some.inj ej]
     refine⟨rfl,⟨rfl,rfl⟩,_,_,_,j,_,rfl,h,eo,t,ds.length,false,?_,ef,q⟩;show[t,L2.T.int (((ds.map ofT).length:Nat):Int)]=_;rw[ak]
    .refine⟨rfl,⟨rfl,rfl⟩,_,_,_,j,_,rfl,h,ej,u,(off[j]).length,true,?_,hf j u _ (XX jk c) e ej,?_⟩
     .show[u,L2.T.int ((((off[j]).map ofT).length:Nat):Int)]=_;rw[ak]
     .exact⟨by lia,_,_,rfl⟩
   .rintro _ ⟨z,x,y,rfl⟩;exact absurd z (Nat.not_le_of_lt hk)
def JM(T:Tx D):OkI P w K mg base CX0 1 D.NoRoom_init jw (acy D.NoRoom "room"):=yf T.K7 λF=>by
 refine F.okB Jo ?_ ?_
 .rintro _ _ _ _ ⟨a,v,rfl,_⟩;rfl
 .rintro ai A outer s H _ Q E hr ⟨a,v,rfl,ha,q⟩;refine⟨_,(Oc (PSB.mk (k_ (TY T.ib_HallError T.xi_NoRoom (by rfl) T.yE (cQ (pv 0) (cQ Lb jB)))))
   (UW (PSB.mk (YD (pv 0) (pv 1) rfl)))),?_⟩
  exact⟨_,rfl,a,[_],rfl,ha,by decide,_,rfl,_,rfl,a,D.NoRoom,rfl,ha,T.xs_NoRoom,T.vQ,q⟩
inductive RmX(n:Nat):L2.T->Prop
 |kind {t:L2.T} : isW t=some false->RmX n t
 |far {k:Int} : ¬(0<=k/\k<n)->RmX n (.int k)
def wR(D:Adr):SX:=λts R z=>∃(s:Rat)(ns:Θ)(off:zi)(t:L2.T),ts=[hlT D s ns off,t]/\((∃k:Nat,t=.int k/\k<ns.length/\R (.fz .non))\/(RmX ns.length t/\z D.NoRoom ["room"] [t]))
def Iw(T:Tx D):OkI P w K mg base (CXO P w) 3 D.Hall_check_room dh (spX K (wR D)):=yf T.p8 λF=>by
 refine F.okTX pQ (λ_ _=>bH (cC (QW.qt (kJ (dZ (cY (bI (Vn T) (bx we bA)))) (iC (dZ (Lg JF Cg bC we (pW wn T.g_ T.jP (QZ T) (KS:=jg)))))))
  (bH (Jr rfl T.Ib T.xi_NoRoom (JM T) we))
  bR)) ?_
 rintro _ R Z ⟨s,ns,off,t,rfl,h⟩;rcases h with⟨k,rfl,hk,q⟩|⟨h,q⟩
 .refine⟨_,_,rfl,rfl,⟨rfl,rfl⟩,_,_,_,rfl,?_⟩;show sw (!decide ((k:Int)<(ns.length:Nat))) _ _;rwa[Zs (show(k:Int)<(ns.length:Nat)by lia)]
 .cases h with
  |kind e=>exact⟨_,_,rfl,e,q⟩
  |@far k e =>
   refine⟨_,_,rfl,rfl,?_⟩;refine swD (λh0=>⟨⟨rfl,rfl⟩,_,_,_,rfl,?_⟩) λh0=>q;refine swT ?_ q;rw[Zp (λz=>e ⟨h0,z⟩)];rfl
abbrev xG(xs:xo)(k:Nat):Rat:=xs.getD k 0
structure XsB(m:Nat)(xs:xo):Prop where
 len:xs.length=m
 fn:∀x∈xs,FnB (10^39) x
 nn:∀x∈xs,0<=x
 le:∀x∈xs,x<=1
def ahF{b:Bool}{mk:Nat->Bool}{ld:Nat->wf}{S':Nat->Bool}(h:Lfp b m mk ld S)(h':Lfp b m mk ld S')(hk:k<m):S k=S' k:=by
 have a:=h.least S' h'.base h'.step k hk;have b:=h'.least S h.base h.step k hk;cases e:S k with
 |true=>rw[a e]
 |false =>
  cases e':S' k with
  |true=>rw[b e']at e;exact e.symm
  |false=>rfl
def BL.congr{mk:Nat->Bool}{c:Nat->xN}{x x':Nat->Rat}(h:BL m mk c S x)(hw:∀k,k<m->∀o,c k=some o->WyO m o)(e:∀k,k<m->x k=x' k):BL m mk c S x':=by
 refine⟨h.lf,λk hk g=>by rw[<- e k hk];exact h.goal k hk g,λk hk g s=>?_,λk hk s=>by rw[<- e k hk];exact h.no k hk s⟩;rw[<- e k hk,h.mean k hk g s];refine U5 λw hm=>?_;cases ec:c k with
 |none=>rw[ec]at hm;cases hm
 |some o =>
  rw[ec]at hm;exact e w.1 ((hw k hk o ec).lt w hm)
def BL.marks{m:Nat}{mk mk' S:Nat->Bool}{c:Nat->xN}{x:Nat->Rat}(h:BL m mk c S x)(e:∀k,k<m->mk k=mk' k):BL m mk' c S x:=⟨h.lf.marks e,λk hk g=>h.goal k hk (by rwa[e k hk]),λk hk g=>h.mean k hk (by rwa[e k hk]),h.no⟩
def zU(D:Adr):ST:=λts q=>∃(s:Rat)(ns:Θ)(off:zi)(gs:zD)(pl:zt),ts=[hlT D s ns off,ntT gs,.lst (pl.map dT)]/\HlZ ns off/\XJ ns gs/\PlT off pl/\∀xs:xo,XsB ns.length xs->(∃S,BL ns.length (mkF gs) (cG off pl) S (xG xs))->q (.l1 (xs.map frR))
def Ls(T:Tx D):gT 10 gQ fD (zU D):=ya T.CN λF=>by
 refine F.okT nH (λ_ _=>bF (bQ 3 (bI (M7 T) (bx wn (bx we bA))))
  (bF (mJ (bI (Mu T) (bx wn (bx wa bA))))
  (bH (bO (bI (GJ T) (bx wn (bx wP (bx wa bA)))))))) ?_
 rintro _ R ⟨s,ns,off,gs,pl,rfl,h,hg,hp,q⟩;refine⟨s,ns,off,gs,rfl,h.h,hg,s,ns,off,pl,rfl,h.h,hp,s,ns,off,mkL ns.length gs,pl,rfl,h,Oj _ _,hp,λS x ch fb=>?_⟩;have xm:((List.range ns.length).map x).map frR=(List.range ns.length).map λi=>frR (x i):=by rw[WS];rfl
 have xg:∀k,k<ns.length->((List.range ns.length).map x).getD k 0=x k:=λk hk=>by rw[au,aq,VX hk];rfl
 rw[<- xm];refine q _ ⟨by rw[ak,WP],λr hr=>?_,λr hr=>?_,λr hr=>?_⟩ ⟨S,(ch.congr (h.cw _) λk hk=>(xg k hk).symm).marks λk hk=>Wv hk⟩<;>obtain⟨i,hi,rfl⟩:=YV.mp hr
 .exact fb i (List.mem_range.mp hi)
 .exact ch.nn (h.cw _) i (List.mem_range.mp hi)
 .exact ch.le1 (h.cw _) i (List.mem_range.mp hi)
def ahL(ns:Θ)(gl t:L2.T):Prop:=∃(as:zD)(bs:List L2.T),gl=.lst (as.map inT++t::bs)/\XJ ns as/\RmX ns.length t
def qM(D:Adr):SX:=λts _ z=>∃(s:Rat)(ns:Θ)(off:zi)(gl t:L2.T),ts=[hlT D s ns off,gl]/\Fb ns off/\ahL ns gl t/\z D.NoRoom ["room"] [t]
def Jw(T:Tx D):Uj P w K mg base 4 fZ d_ (qM D):=yi T.CP λF=>by
 refine F.okTX zR (λ_ _=>bF (iu 2 (bL cR (cF (bx gW bA)) (pW wn T.g_ T.jP (QZ T) (KS:=jg))))
  (bF (dU (cj we) (bY (n:=99) 3)
  (bF (abp wn T.g_ T.lD (Iw T) (bx wP bA) (KS:=jg))
  (bH (sW 2 gW wP))))
  (bH (ji 2)))) ?_
 rintro _ R Z ⟨s,ns,off,gl,t,rfl,h,⟨as,bs,rfl,hg,hb⟩,q⟩;have few:=h.few;refine⟨⟨rfl,rfl⟩,s,ns,off,rfl,⟨by lia,by lia,by show 1*_<=_;exact aL (show _<=1000 by lia) wp⟩,λz hz=>?_⟩;have hz:z=(mkL ns.length []).map L2.T.bl:=by
  rw[hz,show((List.replicate (((ns.length:Nat):Int)).toNat [frz (OT.fz (L2.T.bl false))]).flatten)=List.replicate ns.length (L2.T.bl false)from Zzt];unfold mkL;rw[WS];refine UV (by rw[aN,ak,WP]) λk h1 h2=>?_;rw[List.getElem_replicate,VZ]
  rfl
 rw[hz];show vH _ _ _ (as.map inT++t::bs) _;rw[show as.map inT++t::bs=(as.map inT++t::bs).map λt=>t from(List.map_id' _).symm];refine fL (λt=>t) (as.map inT++t::bs) (λdn o=>∃(ds es:zD)(x:OT),as=ds++es/\dn=ds.map inT/\o=[.fz (hlT D s ns off),.fz (.lst ((as.map inT++t::bs).map λt=>t)),.l1 ((mkL ns.length ds).map L2.T.bl),x]) ⟨[],as,_,rfl,rfl,rfl⟩ ?_ ?_
 .rintro _ a cs _ e ⟨ds,es,x,rfl,rfl,rfl⟩;rw[bf,Wp]at e;have e:=List.append_cancel_left e;cases es with
  |nil =>
   cases e;exact⟨⟨rfl,rfl⟩,s,ns,off,t,rfl,.inr ⟨hb,q⟩⟩
  |cons g es =>
   cases e;have lt:g<ns.length:=hg g wr;refine⟨⟨rfl,rfl⟩,s,ns,off,inT g,rfl,.inl ⟨g,rfl,lt,g,?_,ds++[g],es,.fz (inT g),by simp,by simp,?_⟩⟩
   .unfold ixN;rw[ak,Oj,ZY (X9 _),ZY wo]
    rfl
   .rw[<- YW,Tu]
    rfl
 .rintro _ ⟨ds,es,x,rfl,e,rfl⟩;have:=ZH List.length e;rw[aA,ak,aA,List.length_cons,ak]at this;lia
def wO(D:Adr):SX:=λts _ z=>∃(s:Rat)(ns:Θ)(off:zi)(gl v t:L2.T),ts=[hlT D s ns off,gl,v]/\Fb ns off/\ahL ns gl t/\z D.NoRoom ["room"] [t]
def w5(D:Adr):SX:=λts _ z=>∃(s:Rat)(ns:Θ)(off:zi)(gs:zD)(v w:L2.T),ts=[hlT D s ns off,ntT gs,v]/\Fb ns off/\XJ ns gs/\PlX off v w/\z D.NoPlan ["room"] [w]
def Mq(F:Fu gQ jQ f fd)(T:Tx D)(kO:Uj P w K mg base 4 fZ d_ (qM D))(f9:Uj P w K mg base 4 gP fB (mD D))(dg:gT 9 gF eG (iQ D)):d9 P w K mg base (CXO P w) 10 f fd fD (spX K (wO D)):=by
 refine F.okTX nH (λhr _=>bF (afC 3 nH.nd (Or.inl rfl) kO hr.md (by rfl) (bx wn (bx we bA))) (bF (T7 f9 (bx wn (bx wa bA))) (bH (bO (bI dg (bx wn (bx wP (bx wa bA)))))))) ?_;rintro _ R Z ⟨s,ns,off,gl,v,t,rfl,h,hb,q⟩;exact⟨s,ns,off,gl,t,rfl,h,hb,q⟩
def Ml(F:Fu gQ jQ f fd)(T:Tx D)(gH:gT 3 fZ d_ (n_ D))(f9:Uj P w K mg base 4 gP fB (mD D))(dg:gT 9 gF eG (iQ D)):d9 P w K mg base (CXO P w) 10 f fd fD (spX K (w5 D)):=by
 refine F.okTX nH (λ_ _=>bF (bQ 3 (bI gH (bx wn (bx we bA))))
  (bF (T7 f9 (bx wn (bx wa bA)))
  (bH (bO (bI dg (bx wn (bx wP (bx wa bA)))))))) ?_
 rintro _ R Z ⟨s,ns,off,gs,v,w,rfl,h,hg,hp,q⟩;exact⟨s,ns,off,gs,rfl,h,hg,s,ns,off,v,w,rfl,h,hp,q⟩
def zj(D:Adr):SX:=λts R z=>wO D ts R z\/w5 D ts R z
def JQ(T:Tx D):Uj P w K mg base 10 gQ fD (zj D):=yi T.CN λF=>by exact(Mq F T (Jw T) (IW T) (GJ T)).or (Ml F T (M7 T) (IW T) (GJ T))
def QV{t u:TS}{D:Ends}{σ:L2.St}{H:Hp}(h:t { D with nx:=u D } σ H):aeS t u D σ H:=h
def Ag(D:Adr):ST:=λts q=>∃(s:Rat)(ns:Θ)(off:zi)(gl v:L2.T),ts=[hlT D s ns off,gl,v]/\Fb ns off/\((∃t,ahL ns gl t/\q (.l1 [.str "room",t]))\/∃(gs:zD)(w:L2.T),gl=ntT gs/\XJ ns gs/\PlX off v w/\q (.l1 [.str "plan",w]))
def Wt(T:Tx D):gT 11 uV m_ (Ag D):=ya T.ZC λF=>by
 refine F.ok qg (λvs H Q E h=>?_) (λai A outer s H vs Q E hr h=>?_)
 .obtain⟨ts,R,r,⟨_,_,_,_,_,rfl,_⟩,_⟩:=h;exact r.len
 .obtain⟨ts,R,r,⟨s',ns,off,v',w',rfl,hh,hp⟩,k⟩:=h;obtain⟨o,v,u,rfl⟩ : ∃o v u,vs=[o,v,u]:=by
   match vs,r.len with
   |[o,v,u],_=>exact⟨o,v,u,rfl⟩
  refine⟨_,(wJ (Em (i:=3) qg.nd rfl (Or.inl rfl) (Rf jB))
   (wJ (ac3 (i:=4) qg.nd rfl rfl (by rfl) T.yE T.U0 T.TX rfl rfl rfl (λ_ _ _ HF=>(uE (k_ (Ks (JQ T) hr.md (by rfl) HF (cQ (pv 0) (cQ (pv 1) (cQ (pv 2) jB)))))))
    (λ_ _=>(wJ (acF (PW.pt (pw_and (RB (uc (uO (K':=K) rfl) (by rfl) T.cH boot_isinstance (cQ (pv 4) (cQ (PB (by rfl) T.Cj) jB))) (λ_=>rfl)) (pw_and1 (WM (RB (uc (uO (K':=K) rfl) (by rfl) T.cH boot_isinstance (cQ (pv 4) (cQ (PB (by rfl) T.Ib) jB))) (λ_=>rfl))))))
     (uE (Em (i:=3) qg.nd rfl (Or.inl rfl) (Rf (cQ Lb (cQ (Tt (K':=K) rfl (pv 4) rfl) jB)))))
     Pr)
    (uE (acF (PW.pt (pw_and (RB (uc (uO (K':=K) rfl) (by rfl) T.cH boot_isinstance (cQ (pv 4) (cQ (PB (by rfl) T.Ib) jB))) (λ_=>rfl)) (pw_and1 (WM (RB (uc (uO (K':=K) rfl) (by rfl) T.cH boot_isinstance (cQ (pv 4) (cQ (PB (by rfl) T.Cj) jB))) (λ_=>rfl))))))
     (uE (Em (i:=3) qg.nd rfl (Or.inl rfl) (Rf (cQ Lb (cQ (Tt (K':=K) rfl (pv 4) rfl) jB)))))
     Pr)))))
   (uE (O8 (pv 3))))),?_⟩
  refine QV ⟨(show 0<=sizeLine by decide),λp1 H1 S1 f1 h1=>?_⟩;have jp:∀(bS:Str)(t:L2.T)(H4:Hp)(x:V),R (.l1 [.str bS,t])->z0 H H4->Rep K H4 x t->∀(tk:Addr)(H5:Hp),z0 H4 H5->H4 tk=none->H5 tk=some (.lst [.str bS,x])->Q (.ref tk) H5:=λbS t H4 x q S rx tk H5 S5 n et=>by
   have rs:bZ K (L2.hd (λ_=>False) H4) [.str bS,x] [.str bS,t]:=by rw[Hl];exact .cons (.str _) (.cons rx .nil)
   exact k H5 (.ref tk) _ q (S.trans S5) (NR.l1 (S.free n) et (rs.same (gU (λb z=>z.imp id λ(y:b=tk)=>y ▸ n) S5)))
  refine QV ⟨λC d σ H'=>σ=[some o,some v,some u,some (.ref p1),none]/\∃(C' d':Addr)(bS:Str)(t:L2.T)(x:V),C=.ref C'/\d=some d'/\z0 H H'/\H' d'=some (.xd [("room",x)])/\Rep K H' x t/\R (.l1 [.str bS,t])/\((C'=D.NoPlan/\bS="plan")\/(C'=D.NoRoom/\bS="room")),?_,?_⟩
  .refine⟨_,rfl,_,rfl,_,rfl,_,λ_=>False,λC ks us=>∃(bS:Str)(t:L2.T),ks=(["room"] : Θ)/\us=[t]/\R (.l1 [.str bS,t])/\((C=D.NoPlan/\bS="plan")\/(C=D.NoRoom/\bS="room")),r.same S1,?_,(λ_ _ _ z=>z.elim),?_⟩
   .rcases hp with⟨t,hb,q⟩|⟨gs,w,e,hg,hp,q⟩
    .exact .inl ⟨s',ns,off,v',w',t,rfl,hh,hb,"room",t,rfl,rfl,q,.inr ⟨rfl,rfl⟩⟩
    .subst e;exact .inr ⟨s',ns,off,gs,w',w,rfl,hh,hg,hp,"plan",w,rfl,rfl,q,.inl ⟨rfl,rfl⟩⟩
   rintro H' C d ks us cx ⟨bS,t,rfl,rfl,q,hc⟩ S hx ru
   match us,ru with
   |[x],.cons ru .nil=>exact⟨rfl,C,d,bS,t,x,rfl,rfl,S1.trans S,hx,ru,q,hc⟩
  .rintro _ _ σ' H' ⟨rfl,C,d,bS,t,x,rfl,rfl,S,hx,ru,q,hc⟩;rcases hc with⟨rfl,rfl⟩|⟨rfl,rfl⟩
   .refine⟨D.NoPlan,rfl,T.sm_NoPlan,λa ha=>?_⟩;refine QV ⟨_,rfl,a,D.NoPlan,some d,_,_,true,rfl,bW,.inr ⟨_,rfl,rfl⟩,T.xk_NoPlan,T.ki_NoPlan_NoPlan,true,rfl,_,rfl,a,D.NoPlan,some d,_,_,false,rfl,bW,.inr ⟨_,rfl,rfl⟩,T.xk_NoPlan,T.ki_NoPlan_NoRoom,false,rfl,_,rfl,a,D.NoPlan,d,_,x,rfl,bW,z0.upd ha _ _ hx,T.xk_NoPlan,T.hd_NoPlan,T.zq,rfl,(show 2<=sizeLine by decide),λp2 H5 S5 f5 h5=>?_⟩;exact⟨_,rfl,a,D.NoPlan,some d,_,_,false,rfl,S5 _ _ bW,.inr ⟨_,rfl,rfl⟩,T.xk_NoPlan,T.ki_NoPlan_NoRoom,false,rfl,_,rfl,jp "plan" t (upd H' a (XO a D.NoPlan (some d))) x q (S.trans (z0.upd ha)) (ru.same (z0.upd ha)) p2 H5 S5 f5 h5⟩
   .refine⟨D.NoRoom,rfl,T.sm_NoRoom,λa ha=>?_⟩;refine QV ⟨_,rfl,a,D.NoRoom,some d,_,_,false,rfl,bW,.inr ⟨_,rfl,rfl⟩,T.xk_NoRoom,T.ki_NoRoom_NoPlan,false,rfl,_,rfl,a,D.NoRoom,some d,_,_,true,rfl,bW,.inr ⟨_,rfl,rfl⟩,T.xk_NoRoom,T.ki_NoRoom_NoRoom,true,rfl,_,rfl,a,D.NoRoom,some d,_,_,false,rfl,bW,.inr ⟨_,rfl,rfl⟩,T.xk_NoRoom,T.ki_NoRoom_NoPlan,false,rfl,_,rfl,a,D.NoRoom,d,_,x,rfl,bW,z0.upd ha _ _ hx,T.xk_NoRoom,T.hd_NoRoom,T.vQ,rfl,(show 2<=sizeLine by decide),λp2 H5 S5 f5 h5=>?_⟩;exact⟨_,rfl,jp "room" t (upd H' a (XO a D.NoRoom (some d))) x q (S.trans (z0.upd ha)) (ru.same (z0.upd ha)) p2 H5 S5 f5 h5⟩
def Cz(l:List α)(c:Int)(hl:l.length=m)(h0:0<m):∃t,t∈l/\ixT l (c%(m:Nat))=some t:=by
 have a:=Z3 c (show((m:Nat):Int)≠0 by lia);have b:=YY c (show(0:Int)<(m:Nat)by lia);obtain⟨k,e⟩:=Zzu a;have hk:k<l.length:=by lia
 refine⟨l[k],aU hk,?_⟩;rw[e];show nth l k=_;rw[sX,aj hk]
def Ld{s:Str}{d:PyData}(hs:PyData.canLay0 (.str s)=true)(h:PyData.canLay0 d=true)(n:PyData.depth d<=60):SeqAt.shaped (.list [.str s,d])=true:=by
 have h1:PyData.canLay0 (.list [.str s,d])=true:=by
  unfold PyData.canLay0 PyData.canLayAll0 PyData.canLayAll0 PyData.canLayAll0;rw[hs,h];rfl
 have h2:PyData.depth (.list [.str s,d])<=64:=by
  simp only[PyData.depth,PyData.depthAll];lia
 unfold SeqAt.shaped;rw[h1,Zs h2];rfl
structure aoz(m:Nat)(d:PyData):Prop where
 bad:RmX m (ofD d)
 eqv:PyData.eqv d d=true
 sh:SeqAt.shaped (.list [.str "room",d])=true
 kd:∃b,isK .bool (ofD d)=some b
def acp:ST:=λts q=>∃(c:Int)(m:Nat),ts=[.int c,.int (m:Nat)]/\0<=c/\∀d,aoz m d->q (.fz (ofD d))
def aii(T:Tx D):gT 1 V6 JT acp:=ya T.aky λF=>by
 refine F.okT aic (λ_ _=>bH (bO (bJ (cF (bx we (bx (bL cD (bL cD we bC) (bL iD wn bC)) (bx (bL Qx (En bC) (bL cB (bL iD wn bC) bC)) (bx gW (bx gW (bx fY (bx lJ (bx (dN (bx bC (bx bC bA))) bA))))))))) (bL cB wn bC)))) ?_;rintro _ R ⟨c,m,rfl,c0,q⟩;refine⟨⟨by decide,d7 wp⟩,⟨by decide,d7 wp⟩,by decide,by decide,?_⟩;obtain⟨t,ht,e⟩:=Cz [L2.T.int (m:Nat),.int ((m:Nat)+1+c.fdiv 8),.int (-1-c.fdiv 8%9),.bl true,.bl false,.non,.str "a",.tup [.int 0,.int 1]] c (m:=8) rfl wp;refine⟨t,e,?_⟩;have d8:c.fdiv 8=c/8:=Q3 _ wp;have far:∀i:Int,¬(0<=i/\i<(m:Nat))->R (.fz (.int i)):=λi h=>q (.int i) ⟨.far h,by show decide (i=i)=true;exact Zs rfl,Ld (by decide +kernel) rfl (aZ _),false,rfl⟩
 revert t
 simp only[YU,VY,or_false];rintro t (rfl|rfl|rfl|rfl|rfl|rfl|rfl|rfl) _
 .exact far _ wo
 .exact far _ wo
 .exact far _ (by omega)
 .exact q (.bool true) ⟨.kind rfl,rfl,Ld (by decide +kernel) rfl (aZ _),true,rfl⟩
 .exact q (.bool false) ⟨.kind rfl,rfl,Ld (by decide +kernel) rfl (aZ _),true,rfl⟩
 .exact q .none ⟨.kind rfl,rfl,Ld (by decide +kernel) rfl (aZ _),false,rfl⟩
 .exact q (.str "a") ⟨.kind rfl,by decide +kernel,by decide +kernel,false,rfl⟩
 .exact q (.tuple [.int 0,.int 1]) ⟨.kind rfl,by decide +kernel,by decide +kernel,false,rfl⟩
def Vl(l:List α) : fG l (some (n:Int)) none=l.drop n:=by
 unfold fG;rw[HT.uy];show(l.drop (min n l.length)).take (l.length-min n l.length)=_;by_cases h:n<=l.length
 .rw[Nat.min_eq_left h];exact QY (by rw[UZ];exact aG _)
 .rw[U2 (by lia:l.length<=n),U2 wo,List.take_nil]
def Yr{s:Str}{d:PyData}(h:PyData.eqv d d=true):PyData.eqv (.list [.str s,d]) (.list [.str s,d])=true:=by
 unfold PyData.eqv PyData.eqvAll PyData.eqvAll PyData.eqvAll;rw[h];simp[PyData.eqv]
def wH(D:Adr):ST:=λts q=>∃(s:Rat)(ns:Θ)(off:zi)(gs:zD)(vs:List L2.T)(c:Int),ts=[hlT D s ns off,.int (ns.length:Nat),ntT gs,.lst vs,.int c]/\Fb ns off/\XJ ns gs/\gs.length<=9/\0<=c/\q (.fz (.bl true))
def JH(T:Tx D):gT 12 qm jJ (wH D):=ya T.MF λF=>by
 refine F.okT KN (λhr _=>bF (bQ 5 (bI (aii T) (bx wE (bx we bA))))
  (bF (bQ 6 (bL cB (bL iD wE bC) (bL cD (bM cI T.dI WJ (bx wa bA)) bC)))
  (bF (dU (cj wP) (bY (n:=99) 7)
  (bF (bQ 8 (bI (Wt T) (bx wn (bx (bL cD (bL cD (bL cD (fM wa nR (eU (qv 6))) (cF (bx (qv 5) bA))) (fM wa (eU (qv 6)) nR)) (cF (bx (bL cD we bC) bA))) (bx (qv 7) bA)))))
  (bH (cC (QW.qt (kJ (b_ (lN hr.units) (qv 8) (cF (bx lJ (bx (qv 5) bA)))) (iC (b_ (lN hr.units) (nu .bool (bJ (qv 8) bC) T.cH T.Pn boot_bool) (nu .bool (qv 5) T.cH T.Pn boot_bool)))))
  (bH (bO gW))
  bR))))
  (bH (bO gW))))) ?_
 rintro _ R ⟨s,ns,off,gs,vs,c,rfl,h,hg,gl,c0,q⟩;refine⟨c,ns.length,rfl,c0,λd hd=>⟨⟨by decide,d7 wp⟩,by exact Int.lt_add_one_of_le (X9 _),?_⟩⟩;obtain⟨a,ea⟩ : ∃a:Nat,c.fdiv 8%(((gs.map inT).length:Int)+1)=(a:Nat):=by
  have:=Z3 (c.fdiv 8) (show((gs.map inT).length:Int)+1≠0 by lia);exact⟨_,(QP this).symm⟩
 dsimp only[frz];rw[ea];refine zP (λ_ o=>∃x y,o=[.fz (hlT D s ns off),.fz (.int (ns.length:Nat)),.fz (ntT gs),.fz (.lst vs),.fz (.int c),.fz (ofD d),.fz (.int (a:Nat)),x,y]) vs 0 ⟨_,_,rfl⟩ ?_ ?_
 .rintro i v _ _ ⟨x,y,rfl⟩;have e1:fG (gs.map inT) none (some (a:Int))=(gs.take a).map inT:=by rw[oh,Rq]
  have e2:fG (gs.map inT) (some (a:Int)) none=(gs.drop a).map inT:=by rw[oh,Vl]
  have up:∀{n:Nat},n<=20->n<=sizeLine:=λh=>aL h wp;have t1:(gs.take a).length<=9:=by rw[aY];omega
  have t2:(gs.drop a).length<=9:=by rw[UZ];exact aL (Nat.sub_le _ _) gl
  obtain⟨b,eb⟩:=hd.kd;refine⟨?_,?_,?_,s,ns,off,_,v,rfl,h,.inl ⟨ofD d,⟨gs.take a,(gs.drop a).map inT++[.int ((ns.length:Nat)+2)],?_,λg kA=>hg g (List.mem_of_mem_take kA),hd.bad⟩,.list [.str "room",d],.list [.str "room",d],rfl,rfl,hd.sh,hd.sh,?_⟩⟩
  .rw[e1];exact up (by rw[ak];show(gs.take a).length+1<=20;lia)
  .rw[e1,e2];exact up (by rw[aA,ak,ak];show(gs.take a).length+1+(gs.drop a).length<=20;lia)
  .rw[e1,e2];exact up (by rw[aA,aA,ak,ak];show(gs.take a).length+1+(gs.drop a).length+1<=20;lia)
  .show L2.T.lst (((fG (gs.map inT) none (some (a:Int))++[ofD d])++fG (gs.map inT) (some (a:Int)) none)++[_])=_;rw[e1,e2,Wp,Wp]
   rfl
  .rw[Yr hd.eqv];refine swF rfl ⟨_,rfl,?_⟩;refine agu eb ?_;refine agu eb ?_;refine swF ?_ ⟨_,_,rfl⟩;cases b<;>rfl
 .rintro _ ⟨x,y,rfl⟩;exact q
def amq(xs:List α):(fG xs (some 1) none).length=xs.length-1:=by
 show(fG xs (some ((1:Nat):Int)) none).length=_;unfold fG;rw[HT.uy,HT.acq,aY,UZ];lia
def anz{off:zi}(hp:PlT off pl){u:L2.T}{es:List bV}(e1:(pl.map dT)[j]?=some u)(e2:off[j]?=some es):Ia u es.length=some true:=by
 rw[aq]at e1;cases e:pl[j]? with
 |none=>rw[e]at e1;cases e1
 |some d =>
  rw[e]at e1;cases e1;cases d with
  |none =>
   have:=of_decide_eq_true (hp.ok j none es e e2);show Ia .non es.length=_;rw[this];rfl
  |some k =>
   have:=of_decide_eq_true (hp.ok j (some k) es e e2);show Ia (.int (k:Nat)) es.length=_;unfold Ia;rw[ZZ wo];refine ZH some ?_;rw[Zs (X9 _),Zs wo];rfl
def ai9(c:Int)(h:0<m):∃k:Nat,k<m/\c%(m:Nat)=(k:Nat):=by
 have a:=Z3 c (show((m:Nat):Int)≠0 by lia);have b:=YY c (show(0:Int)<(m:Nat)by lia);exact⟨(c%(m:Nat)).toNat,by lia,by lia⟩
structure SpP(c9:zD)(pl:zt):Prop where
 few:c9.length<=8
 len:pl.length=c9.length
 ok:∀(k:Nat)d n,pl[k]?=some d->c9[k]?=some n->w6 d n=true
 sm:∀n∈c9,n<=100
def SpP.plt{c9:zD}(h:SpP c9 pl){off:zi}(e:off.map List.length=c9):PlT off pl:=by
 subst e;exact⟨by rw[h.len,ak],λk d ds ep eo=>h.ok k d _ ep (by rw[aq,eo];rfl)⟩
def adL(pl:zt):PyData.eqv (.list (pl.map dD)) (.list [])=decide (pl.length=0):=by cases pl<;>rfl
def ahk{c9:zD}(h:SpP c9 pl){a:Nat}(en:c9[a]?=some n){t:L2.T}(ht:Ia t n=some false){off:zi}(e:off.map List.length=c9):PlX off (.lst ((pl.take a).map dT++t::(pl.drop (a+1)).map dT)) (.int (a:Nat)):=by
 have hp:=h.plt e;have la:a<c9.length:=(ao.mp en).1;have lo:off.length=c9.length:=by rw[<- e,ak]
 have lp:=h.len;have lt:((pl.take a).map dT).length=a:=by rw[ak,aY];lia
 have eo:=aj (show a<off.length by lia);refine .at (ds:=off[a]) (t:=t) ?_ (λj u es hj eu ee=>?_) ?_ eo ?_
 .rw[aA,lt,List.length_cons,ak,UZ];lia
 .rw[aF wo]at eu;refine anz hp (j:=j) ?_ ee;rw[aq]at eu ⊢;rwa[List.getElem?_take_of_lt hj]at eu
 .rw[aD (WG lt),lt,TR];rfl
 .have:(off.map List.length)[a]?=some n:=by rwa[e]
  rw[aq,eo]at this;have this:(off[a]' wo).length=n:=Option.some.inj this;rwa[this]
def ag7{c:RT}{x y z:RS}(v:Bool)(h:∀q:Bool->Prop,q v->c o q)(t:v=true->h_ x z E o)(f:v=false->h_ y z E o):h_ (ai2 c x y) z E o:=h _ (by
 cases v with
 |true=>exact t rfl
 |false=>exact f rfl)
def Ni:ST:=λts q=>∃(c:Int)(c9:zD)(pl:zt),ts=[.int c,.lst (pl.map dT),ntT c9]/\0<=c/\SpP c9 pl/\∀(v:L2.T)(d:PyData),(d=.none\/∃k:Nat,d=.int (k:Nat))->(∀off:zi,off.map List.length=c9->PlX off v (ofD d))->q (.fz (.tup [v,ofD d]))
def aaE(T:Tx D):gT 1 FW tV Ni:=ya T.ab7 λF=>by
 refine F.okT ZQ (λhr _=>bF (bQ 3 (bL cB (bL iD wn bC) (bL cD (bM cI T.dI WJ (bx we bA)) bC)))
  (bF (cC (QW.qt (kJ (b_ (yY hr.units) wP (bM cI T.dI WJ (bx we bA))) (iC (b_ (yY hr.units) (bL cB wn bC) bC))))
  (bF (bQ 4 (cF (bx (bL cD we (cF (bx fY bA))) (bx fY (bx (lQ acn T.Sw boot_tuple (bx we bA)) (bx lJ (bx (fM we (eU bC) nR) bA)))))))
  (bF (cC (b_ (yY hr.units) we (cF bA))
  (bH (bQ 4 (fM wE nR (eU bC))))
  bR)
  (bH (bO (dN (bx (bJ wE (bL cB (bL iD wn bC) (bM cI T.dI WJ (bx wE bA)))) (bx fY bA)))))))
  bR)
  (bF (cC (b_ (yY hr.units) (bJ wa wP) bC)
  (bH (bQ 5 (bJ (cF (bx bC (bx (En bC) (bx gW (bx lJ (bx (cF bA) bA)))))) (bL cB (bL iD wn bC) bC))))
  (bH (bQ 5 (bJ (cF (bx fY (bx (En bC) (bx (bJ wa wP) (bx gW (bx gW (bx lJ (bx (bL cD (bJ wa wP) (bL adM bC bC)) bA)))))))) (bL cB (bL iD wn bC) bC)))))
  (bH (bO (dN (bx (bL cD (bL cD (fM we nR (eU wP)) (cF (bx (qv 5) bA))) (fM we (eU (bL cD wP bC)) nR)) (bx wP bA)))))))) ?_
 rintro _ R ⟨c,c9,pl,rfl,c0,h,q⟩;have few:=h.few;have len:=h.len;have lm:(pl.map dT).length=pl.length:=ak ..;obtain⟨a,la,ea⟩:=ai9 (c.fdiv 64) (m:=pl.length+1) (Tk _);have ea:c.fdiv 64%(((pl.map dT).length:Int)+1)=(a:Nat):=by rwa[lm]
 refine⟨⟨by decide,d7 wp⟩,by exact Int.lt_add_one_of_le (X9 _),?_⟩;dsimp only[frz];rw[ea];have up:∀{n:Nat},n<=20->n<=sizeLine:=λh=>aL h wp;have ol:∀{off:zi},off.map List.length=c9->off.length=pl.length:=λ{off}e=>by rw[len,<- e,ak]
 have kd:∀{t:L2.T},isK .list t=some false->R (.fz (.tup [t,.non])):=λht=>q _ .none (.inl rfl) λoff _=>.kind ht;have kl:∀{ts:List L2.T},ts.length≠pl.length->R (.fz (.tup [.lst ts,.non])):=λht=>q _ .none (.inl rfl) λoff e=>.len (by rwa[ol e]);have g1:R (.fz (.tup [.lst (pl.map dT++[.non]),.non])):=kl (by rw[aA,lm];show pl.length+1≠_;exact VV (X0 _));refine ag7 (decide (a=pl.length) || decide (c%5=0)) (λq hq=>?_) (λhb=>?_) λhb=>?_
 .refine swD (λh1=>?_) λh1=>⟨by decide,?_⟩
  .rw[Zs (show a=pl.length by rw[lm]at h1;lia)]at hq;exact hq
  .rw[Zp (show ¬a=pl.length from λz=>h1 (by rw[lm,z]))]at hq;exact hq
 .refine⟨up (by rw[lm];show pl.length+1<=20;lia),?_⟩;refine⟨.list (pl.map dD),.list [],ZH L2.T.lst (qe j_.of pl),rfl,j_.lst pl,rfl,?_⟩;rw[adL];by_cases c1:pl.length=0
  .rw[Zs c1];obtain⟨t,ht,e⟩:=Cz [L2.T.lst (pl.map dT++[.non]),.non,.tup (pl.map dT),.str "plan"] (c.fdiv 5) (m:=4) rfl wp;refine swT rfl ⟨⟨by decide,d7 wp⟩,(show(0:Int)<4 by decide),t,e,?_⟩
   revert t
   simp only[YU,VY,or_false];rintro t (rfl|rfl|rfl|rfl) _
   .exact g1
   .exact kd rfl
   .exact kd rfl
   .exact kd rfl
  .rw[Zp c1];obtain⟨t,ht,e⟩:=Cz [L2.T.lst (pl.map dT++[.non]),.non,.tup (pl.map dT),.str "plan",.lst (fG (pl.map dT) (some 1) none)] (c.fdiv 5) (m:=5) rfl wp;refine swF rfl ⟨⟨by decide,d7 wp⟩,(show(0:Int)<5 by decide),t,e,?_⟩
   revert t
   simp only[YU,VY,or_false];rintro t (rfl|rfl|rfl|rfl|rfl) _
   .exact g1
   .exact kd rfl
   .exact kd rfl
   .exact kd rfl
   .exact kl (by rw[amq,lm];lia)
 .have la':a<pl.length:=by
   have:¬a=pl.length:=λz=>by rw[Zs z]at hb;cases hb
   lia
  have en:=aj (show a<c9.length by exact aR la' (WG len));generalize c9[a]'(aR la' (WG len))=n at en;have ns:=h.sm n (aC en);refine sq2 (λo=>∃(t:L2.T)(x:OT),Ia t n=some false/\o=[.fz (.int c),.fz (.lst (pl.map dT)),.fz (ntT c9),.fz (.int (a:Nat)),x,.fz t]) ?_ λY hY=>?_
  .rintro _ ⟨t,x,ht,rfl⟩;have e1:fG (pl.map dT) none (some (a:Int))=(pl.take a).map dT:=by rw[oh,Rq]
   have e2:fG (pl.map dT) (some ((a:Int)+1)) none=(pl.drop (a+1)).map dT:=by rw[show(a:Int)+1=((a+1:Nat):Int)by lia,oh,Vl]
   have t1:(pl.take a).length<=8:=by rw[aY];lia
   have t2:(pl.drop (a+1)).length<=8:=by rw[UZ];lia
   refine⟨?_,?_,?_⟩
   .rw[e1];exact up (by rw[ak];show(pl.take a).length+1<=20;lia)
   .rw[e1,e2];exact up (by rw[aA,ak,ak];show(pl.take a).length+1+(pl.drop (a+1)).length<=20;lia)
   .have:=q _ (.int (a:Nat)) (.inr ⟨a,rfl⟩) λoff e=>ahk h en ht e;show R (.fz (.tup [.lst ((fG (pl.map dT) none (some (a:Int))++[t])++fG (pl.map dT) (some ((a:Int)+1)) none),_]));rw[e1,e2,Wp];exact this
  .refine⟨_,dB en,swD (λh0=>?_) λh0=>?_⟩
   .have n0:n=0:=by lia
    subst n0;obtain⟨t,ht,e⟩:=Cz [L2.T.int 0,.int (-1),.bl false,.str "a",.lst []] (c.fdiv 5) (m:=5) rfl wp;refine⟨⟨by decide,d7 wp⟩,by decide,t,e,hY _ ⟨t,_,?_,rfl⟩⟩
    revert t
    simp only[YU,VY,or_false];rintro t (rfl|rfl|rfl|rfl|rfl) _<;>rfl
   .have n0:n≠0:=by lia
    refine⟨_,dB en,_,dB en,⟨by decide,by decide⟩,?_⟩;have e20:(10:Int)^Int.toNat 20=10^20:=rfl;dsimp only[frz];rw[e20];obtain⟨t,ht,e⟩:=Cz [L2.T.non,.int (-1),.int (n:Nat),.bl true,.bl false,.str "a",.int ((n:Nat)+10^20)] (c.fdiv 5) (m:=7) rfl wp;refine⟨⟨by decide,d7 wp⟩,by decide,t,e,hY _ ⟨t,_,?_,rfl⟩⟩
    revert t
    simp only[YU,VY,or_false];have big:(100:Int)<10^20:=by decide
    rintro t (rfl|rfl|rfl|rfl|rfl|rfl|rfl) _<;>unfold Ia<;>rw[ZZ n0]<;>first|rfl|(refine ZH some ?_;rw[Zp (show ¬(_:Int)<(n:Nat)by lia),Bool.and_false])
def ajc{L:xk}(hk:k<L.length)(i:Nat):mkG (L.set k true) i=(decide (i=k) || mkG L i):=by
 show(L.set k true).getD i false=(_ || L.getD i false);rw[au,au];by_cases e:i=k
 .rw[e,UU hk,Zs rfl];rfl
 .rw[VQ (λz=>e z.symm),Zp e];rfl
def akr{S':Nat->Bool}{d:zD}(h:∀i,S i=true->S' i=true)(e:mtS S d=true):mtS S' d=true:=by
 obtain⟨r,hr,s⟩:=List.any_eq_true.mp e;exact List.any_eq_true.mpr ⟨r,hr,h r s⟩
structure NrI(m:Nat)(gs:zD)(W:Nat->zD)(L:xk):Prop where
 len:L.length=m
 base:∀k,k<m->mkF gs k=true->mkG L k=true
 least:∀A:Nat->Bool,(∀k,k<m->mkF gs k=true->A k=true)->(∀k,k<m->mtS A (W k)=true->A k=true)->∀k,k<m->mkG L k=true->A k=true
def Clo(m:Nat)(W:Nat->zD)(L:xk):Prop:=∀k,k<m->mtS (mkG L) (W k)=true->mkG L k=true
def NrT(m:Nat)(gs:zD)(W:Nat->zD)(t:Nat)(L:xk):Prop:=NrI m gs W L/\(Clo m W L\/cnt (mkG L) m+t<=m)
structure NrJ(m:Nat)(gs:zD)(W:Nat->zD)(L0:xk)(k:Nat)(L:xk):Prop where
 i:NrI m gs W L
 up:∀i,mkG L0 i=true->mkG L i=true
 done:∀i,i<k->mtS (mkG L0) (W i)=true->mkG L i=true
section
variable{m k t:Nat}{gs:zD}{W:Nat->zD}{L L0:xk}
def NrJ.no(h:NrJ m gs W L0 k L)(n:mtS (mkG L) (W k)=false):NrJ m gs W L0 (k+1) L:=⟨h.i,h.up,λi hi e=>by
 by_cases c:i=k
 .subst c;rw[akr h.up e]at n;cases n
 .exact h.done i (XX (UY hi) c) e⟩
def NrJ.yes(h:NrJ m gs W L0 k L)(hk:k<m)(hW:∀r∈W k,r<m)(y:mtS (mkG L) (W k)=true):NrJ m gs W L0 (k+1) (L.set k true):=by
 have sa:=ajc (L:=L) (k:=k) (by rwa[h.i.len]);have u:∀i,mkG L i=true->mkG (L.set k true) i=true:=λi e=>by rw[sa,e,Bool.or_true]
 refine⟨⟨by rw[WH,h.i.len],λi hi g=>u i (h.i.base i hi g),λA a b i hi e=>?_⟩,λi e=>u i (h.up i e),λi hi e=>?_⟩
 .rw[sa]at e;by_cases c:i=k
  .subst c;obtain⟨r,hr,s⟩:=List.any_eq_true.mp y;exact b i hi (List.any_eq_true.mpr ⟨r,hr,h.i.least A a b r (hW r hr) s⟩)
  .rw[Zp c,Bool.false_or]at e;exact h.i.least A a b i hi e
 .by_cases c:i=k
  .rw[sa,Zs c];rfl
  .exact u i (h.done i (XX (UY hi) c) e)
def NrJ.turn(hW:∀k,k<m->∀r∈W k,r<m)(j:NrJ m gs W L0 m L)(h:NrT m gs W t L0):NrT m gs W (t+1) L:=by
 refine⟨j.i,?_⟩;by_cases c:Clo m W L0
 .refine .inl λk hk s=>?_;obtain⟨r,hr,s⟩:=List.any_eq_true.mp s;exact j.up k (c k hk (List.any_eq_true.mpr ⟨r,hr,j.i.least (mkG L0) h.1.base c r (hW k hk r hr) s⟩))
 .right;have d:cnt (mkG L0) m+t<=m:=h.2.resolve_left c;obtain⟨k,hk,s,n⟩ : ∃k,k<m/\mtS (mkG L0) (W k)=true/\mkG L0 k=false:=by
   refine Classical.byContradiction λz=>c λk hk s=>?_;cases e:mkG L0 k with
   |true=>rfl
   |false=>exact absurd ⟨k,hk,s,e⟩ z
  have:=Wa n (j.done k hk s) hk λi _ e=>j.up i e;lia
theorem X7(S:Nat->Bool):∀n,cnt S n<=n
 |0=>aG _
 |n+1=>by
  have:=X7 S n;show cnt S n+(if S n then 0 else 1)<=n+1;split<;>lia
theorem adl{S:Nat->Bool} : ∀{n:Nat},cnt S n=0->∀k,k<n->S k=true
 |n+1,h,k,hk=>by
  have h:cnt S n+(if S n then 0 else 1)=0:=h;cases e:S n with
  |true =>
   rw[e]at h;by_cases c:k=n
   .rw[c,e]
   .exact adl (n:=n) h k (XX (UY hk) c)
  |false=>rw[e]at h;simp at h
def NrT.fin(h:NrT m gs W m L):Lfp false m (mkF gs) (λk=>[W k]) (mkG L):=by
 have c:Clo m W L:=h.2.elim id λz k hk _=>adl (show cnt (mkG L) m=0 by lia) k hk;have j:∀{k:Nat}{A:Nat->Bool},jn false [W k] A=true↔mtS A (W k)=true:=λ{k A}=>by
  show(([W k] : wf).any (mtS A))=true↔_;simp
 exact⟨h.1.base,λk hk e=>c k hk (j.mp e),λA a b=>h.1.least A a λk hk e=>b k hk (j.mpr e)⟩
def NrT.start:NrT m gs W 0 (mkL m gs):=⟨⟨Oj _ _,λk hk g=>by rw[Wv hk];exact g,λA a _ k hk e=>a k hk (by rw[<- Wv hk];exact e)⟩,.inr (X7 _ _)⟩
end
abbrev wsT(ws:zh):L2.T:=.lst (ws.map nwT)
abbrev rmG(tk:List zh)(k:Nat):zD:=(tk.getD k []).map (·.1)
def inD(k:Nat):PyData:=.int (k:Nat)
def jO:EqD inT inD:=⟨λ_=>rfl,λ_=>rfl,λ_=>aZ _,λx y=>by
 show decide ((x:Int)=(y:Int))=_;exact decide_eq_decide.mpr ⟨λz=>Int.ofNat.inj z,λz=>by rw[z]⟩⟩
def aaW : ((gs.map inD).any λy=>PyData.eqv y (inD k))=mkF gs k:=by
 rw[UR];unfold mkF;refine Bool.eq_iff_iff.mpr ⟨λz=>?_,λz=>?_⟩
 .obtain⟨y,hy,e⟩:=List.any_eq_true.mp z;have e:PyData.eqv (inD y) (inD k)=true:=e;rw[jO.eqv]at e;exact Zs (of_decide_eq_true e ▸ hy)
 .exact List.any_eq_true.mpr ⟨k,of_decide_eq_true z,by show PyData.eqv (inD k) (inD k)=true;rw[jO.eqv];exact Zs rfl⟩
def alK(gs:zD):ntT gs=ofD (.list (gs.map inD)):=ZH L2.T.lst (qe jO.of gs)
def aeZ{neg:Bool}{q:OT->Prop}(h:q (.fz (.bl (xr neg (mkF gs k))))):gIn neg (inT k) (ntT gs) q:=⟨inD k,gs.map inD,rfl,alK gs,rfl,jO.lst gs,by rwa[aaW]⟩
def Y8:ST:=λts q=>∃(tk:List zh)(gs:zD),ts=[.lst (tk.map wsT),ntT gs]/\tk.length<=100/\(∀ws∈tk,ws.length<=1000/\∀w∈ws,w.1<tk.length)/\∀L:xk,L.length=tk.length->Lfp false tk.length (mkF gs) (λk=>[rmG tk k]) (mkG L)->q (.l1 (L.map L2.T.bl))
def ae0(T:Tx D):gT 1 P_ Br Y8:=ya T.agQ λ{f fd}F=>by
 refine F.okT ae2 (λhr _=>bF (iu 2 (dG (bG Kc) RW ["_law_taken_here","_law_goals_here","_law_found","_law_turn","?_law_k"] ["_law_k"] (dW T.fQ (bx (bM cI T.dI WJ (bx wn bA)) bA)) (eF (i:=0)) cA (qR (agc hr.units) wn wa (hm:=by rfl))))
  (bF (dU (dW T.fQ (bx (bM cI T.dI WJ (bx wn bA)) bA)) (bY (n:=99) 3)
  (bH (dU (dW T.fQ (bx (bM cI T.dI WJ (bx wn bA)) bA)) (bY (n:=99) 4)
  (bH (cC (cY (bM (Xd rfl) T.acz boot_any (bx (dG (bG Kc) RW RW ["_law_room","_law_chance"] (cj (bJ wn wE)) (eX (n:=2) (bN (eF (i:=0)) (bN (eF (i:=1)) c7))) cA (vf 4 wn)) bA)))
  (bH (sW 2 gW wE))
  bR)))))
  (bH (ji 2)))) ?_
 rintro _ R ⟨tk,gs,rfl,few,ok,q⟩;have lm:(tk.map wsT).length=tk.length:=ak ..;have hW:∀k,k<(tk.map wsT).length->∀r∈rmG tk k,r<(tk.map wsT).length:=λk hk r hr=>by
  rw[lm]at hk ⊢;obtain⟨w,hw,rfl⟩:=YV.mp hr;rw[au,aj hk]at hw;exact(ok _ (aU hk)).2 w hw
 refine⟨⟨by lia,by lia⟩,by rw[rng,ak,WP];exact aL (show _<=100 by lia) wp,P0 (λk=>.bl (mkF gs k)) (tk.map wsT).length (λk hk N M hN=>show gIn false (inT k) (ntT gs) λy=>N (frz y)from aeZ hN) ?_⟩;have e0:(List.range (tk.map wsT).length).map (λk=>L2.T.bl (mkF gs k))=(mkL (tk.map wsT).length gs).map L2.T.bl:=by unfold mkL;rw[WS];rfl
 rw[e0];refine⟨⟨by lia,by lia⟩,mW (n:=(tk.map wsT).length) (λt o=>∃L x y,o=[.fz (.lst (tk.map wsT)),.fz (ntT gs),.l1 (L.map L2.T.bl),x,y]/\NrT (tk.map wsT).length gs (rmG tk) t L) ⟨_,_,_,rfl,NrT.start⟩ ?_ ?_⟩
 .rintro t _ ht ⟨L0,x,y,rfl,h⟩;refine⟨⟨by lia,by lia⟩,mW (n:=(tk.map wsT).length) (λk o=>∃L x y,o=[.fz (.lst (tk.map wsT)),.fz (ntT gs),.l1 (L.map L2.T.bl),x,y]/\NrJ (tk.map wsT).length gs (rmG tk) L0 k L) ⟨_,_,_,rfl,h.1,λ_ z=>z,λi hi=>absurd hi (WZ _)⟩ ?_ ?_⟩
  .rintro k _ hk ⟨L,x,y,rfl,j⟩;have lk:k<tk.length:=by exact aR hk (WG lm)
   have ek:tk[k]?=some tk[k]:=aj lk;obtain⟨f1,f2⟩:=ok _ (aU lk);have ll:=j.i.len;refine⟨_,dB ek,by rw[ak];exact aL f1 wp,comp_map nwT (λw=>.bl (mkG L w.1)) tk[k] (λw hw N M hN=>⟨rfl,?_⟩) ⟨tk[k].map λw=>mkG L w.1,by rw[WS];rfl,?_⟩⟩
   .have er:=aj (show w.1<L.length by have:=f2 w hw;lia);refine⟨_,dB er,?_⟩;have hN:N (.bl (L.getD w.1 false)):=hN;rw[au,er]at hN;exact hN
   .have e:((tk[k].map λw=>mkG L w.1).any λb=>b)=mtS (mkG L) (rmG tk k):=by
     show _=(((tk.getD k []).map (·.1)).any (mkG L));rw[au,ek,UR,UR]
     rfl
    show sw ((tk[k].map λw=>mkG L w.1).any λb=>b) _ _;rw[e];refine sw2 (λy=>⟨k,?_,L.set k true,x,.fz (.int (k:Nat)),?_,j.yes hk (hW k hk) y⟩) λn=>⟨_,_,_,rfl,j.no n⟩
    .rw[ak];exact xq wo
    .rw[Tu];rfl
  .rintro _ ⟨L,x,y,rfl,j⟩;exact⟨_,_,_,rfl,j.turn hW h⟩
 .rintro _ ⟨L,x,y,rfl,h⟩;have f:=h.fin;rw[lm]at f;exact q L (h.1.len.trans lm) f
abbrev nKs(ws:zh):xn:=ws.map λx=>.inl (x.1:Nat)
abbrev nTs(ws:zh):zn:=ws.map λx=>frR x.2
def K9{a b:Nat} : (Sum.inl (a:Int):Key)=.inl (b:Int)↔a=b:=⟨λz=>Int.ofNat.inj (Sum.inl.inj z),λz=>by rw[z]⟩
def ahW(ws:zh)(n:Nat):Iv (nKs ws) (.inl (n:Nat))=ws.any λx=>decide (x.1=n):=by
 unfold Iv;rw[UR]
 congr 1
 funext x
 exact decide_eq_decide.mpr K9
theorem abn(n:Nat):∀ws:zh,oG (nKs ws) (nTs ws) (.inl (n:Nat))=(ws.find? λx=>decide (x.1=n)).map λx=>frR x.2
 |[]=>rfl
 |x::ws=>by
  show(if(Sum.inl (x.1:Nat):Key)=.inl (n:Nat)then some (frR x.2)else oG (nKs ws) (nTs ws) (.inl (n:Nat)))=_;by_cases h:x.1=n
  .rw[ZY (K9.mpr h),Zzw (p:=λx:Nat×Rat=>decide (x.1=n)) (Zs h)];rfl
  .rw[ZZ λz=>h (K9.mp z),Zzv (p:=λx:Nat×Rat=>decide (x.1=n)) (by show ¬decide (x.1=n)=true;rw[Zp h];decide),abn n ws]
def C_(ws:zh)(n:Nat):Rat:=((ws.find? λx=>decide (x.1=n)).map (·.2)).getD 0
def adv(ws:zh)(n:Nat):((oG (nKs ws) (nTs ws) (.inl (n:Nat))).getD (frR 0))=frR (C_ ws n):=by
 rw[abn];unfold C_;cases(ws.find? λx=>decide (x.1=n))<;>rfl
def adN(nd:(ws.map (·.1)).Nodup){x:Nat×Rat}(hx:x∈ws)(e:x.1=n):(ws.find? λy=>decide (y.1=n))=some x:=by
 induction ws with
 |nil=>cases hx
 |cons y ws ih =>
  obtain⟨n1,n2⟩:=List.nodup_cons.mp nd;rcases YU.mp hx with rfl|z
  .exact Zzw (p:=λy:Nat×Rat=>decide (y.1=n)) (Zs e)
  .rw[Zzv (p:=λy:Nat×Rat=>decide (y.1=n)) (by show ¬decide (y.1=n)=true;rw[Zp λw=>n1 (YV.mpr ⟨x,z,e.trans w.symm⟩)];decide)];exact ih n2 z
def aho(ws:zh)(p:Nat×Rat)(nd:(ws.map (·.1)).Nodup):kpK (nKs ws) (.inl (p.1:Nat))=nKs (oN ws p)/\kpT (nKs ws) (nTs ws) (.inl (p.1:Nat)) (frR (C_ ws p.1+p.2))=nTs (oN ws p):=by
 unfold kpK kpT oN;rw[ahW];by_cases h:(ws.any λx=>decide (x.1=p.1))=true
 .rw[ZY h,ZY h,ZY h];refine⟨by simp only[nKs,WS];refine UT λx _=>?_;show(Sum.inl (x.1:Nat):Key)=.inl ((if x.1=p.1 then(x.1,x.2+p.2)else x).1:Nat);split<;>rfl,?_⟩
  clear h
  rw[show nTs (ws.map λx=>if x.1=p.1 then(x.1,x.2+p.2)else x)=ws.map ((λx=>frR x.2) ∘ λx=>if x.1=p.1 then(x.1,x.2+p.2)else x)from WS]
  suffices H:∀(us:zh),(∀x∈us,x.1=p.1->x.2=C_ ws p.1)->List.zipWith (λ(k:Key)x=>if k=.inl (p.1:Nat)then frR (C_ ws p.1+p.2)else x) (nKs us) (nTs us)=us.map ((λx=>frR x.2) ∘ λx=>if x.1=p.1 then(x.1,x.2+p.2)else x)from H ws λx hx e=>by
   unfold C_;rw[adN nd hx e];rfl
  intro us
  induction us with
  |nil=>intro _;rfl
  |cons x us ih =>
   intro H;show List.zipWith _ ((Sum.inl ((x.1:Nat):Int):Key)::nKs us) (frR x.2::nTs us)=_;rw[List.zipWith_cons_cons,ih λy hy=>H y (aJ _ hy),List.map_cons]
   congr 1
   by_cases e:x.1=p.1
   .rw[ZY (K9.mpr e)];show _=frR (if x.1=p.1 then(x.1,x.2+p.2)else x).2;rw[ZY e,H x (aO ..) e]
   .rw[ZZ λz=>e (K9.mp z)];show _=frR (if x.1=p.1 then(x.1,x.2+p.2)else x).2;rw[ZZ e]
 .rw[ZZ h,ZZ h,ZZ h];have n0:C_ ws p.1=0:=by
   unfold C_;rw[List.find?_eq_none.mpr λx hx z=>h (List.any_eq_true.mpr ⟨x,hx,z⟩)];rfl
  rw[n0,TK];simp only[nKs,nTs,bf];exact⟨rfl,rfl⟩
def Zk(as bs:zh):gk (as++bs)=bs.foldl oN (gk as):=List.foldl_append ..
def acJ(ps:zh):((gk ps).map (·.1)).Nodup:=by
 suffices H:∀(ps ws:zh),(ws.map (·.1)).Nodup->((ps.foldl oN ws).map (·.1)).Nodup from H ps [] .nil
 intro ps
 induction ps with
 |nil=>exact λ_ h=>h
 |cons p ps ih=>exact λws h=>ih _ (abN h)
def N8(ps:zh):(gk ps).length<=ps.length:=by
 suffices H:∀(ps ws:zh),(ps.foldl oN ws).length<=ws.length+ps.length from by simpa[gk]using H ps []
 intro ps
 induction ps with
 |nil=>exact λ_=>aG _
 |cons p ps ih =>
  intro ws;have h1:(oN ws p).length<=ws.length+1:=by
   unfold oN;split
   .rw[ak];exact Xs _
   .rw[aA,List.length_singleton];exact aG _
  have:=ih (oN ws p);rw[List.foldl_cons,List.length_cons];lia
def ajF{d:LD}(h:LDk m d){as bs:zh}{a:Nat×Rat}(e:d.prs=as++a::bs):((C_ (gk as) a.1).den<=4000/\(C_ (gk as) a.1).num.natAbs<=4000)/\a.2.den<=4000/\a.2.num.natAbs<=4000:=by
 obtain⟨q,q0,q1,hq⟩:=h.all;have sm:∀{r:Rat},0<=r->r<=1->r.den ∣ q->r.den<=4000/\r.num.natAbs<=4000:=λ{r}r0 r1 dv=>by
  have:=UX q0 dv;have:r.num.natAbs<=1*r.den:=R4 (A:=1) (by show r<=((1:Nat):Rat);rwa[show((1:Nat):Rat)=1 from rfl]) (by show -((1:Nat):Rat)<=r;rw[show((1:Nat):Rat)=1 from rfl];grind);lia
 have l2:=h.one;rw[<- zu,e,KR]at l2;have pos:∀ws:zh,(∀w∈ws,0<=w.2)->0<=dw ws λ_=>1:=λws=>by
  induction ws with
  |nil=>intro _;exact VW
  |cons y ws ih =>
   intro h;rw[dY];have:=h y (aO ..);have:=ih λw hw=>h w (aJ _ hw)
   grind
 have nn:=h.nn;rw[e]at nn hq;have p1:=pos as λw hw=>nn w (U1 _ hw);have p2:=pos (a::bs) λw hw=>nn w (aP _ hw);have ha:a∈as++a::bs:=aP _ (aO ..);have a1:=m7 (ws:=a::bs) (λw hw=>nn w (aP _ hw)) (aO ..);refine⟨?_,sm (nn a ha) (by grind) (hq a ha).2.2⟩;have j:=EY q0 (ps:=as) λp hp=>hq p (U1 _ hp);unfold C_;cases ef:(gk as).find? λx=>decide (x.1=a.1)with
 |none=>exact⟨UH rfl,aZ _⟩
 |some y =>
  have hy:=List.mem_of_find?_eq_some ef;have l1:=m7 j.nn hy;rw[j.sum]at l1;exact sm (j.nn y hy) (by show y.2<=1;grind) (j.dn y hy)
def Y0:ST:=λts q=>∃(d:LD)(m:Nat),ts=[ldT d]/\LDk m d/\q (.l1 ((mZ d.prs).map nwT))
def afT(T:Tx D):gT 3 Qo Bw Y0:=ya T.agV λF=>by
 refine F.okT adR (λhr _=>bF (iu 1 HX)
  (bF (dU (cj (bJ wn bC)) (eX (n:=2) (bN (bY (n:=99) 2) (bN (bY (n:=99) 3) c7)))
  (bF (RX (Yd 1 (vG hr) wa (dN (bx bC (bx bC bA)))) (eX (n:=2) (bN (bY (n:=99) 4) (bN (bY (n:=99) 5) c7))))
  (bH (Ho 1 (vG hr) (bI (aah T) (bx (bL cD (bL cR wE (bJ wP bC)) (bL cR (bJ wP bC) (qv 5))) (bx (bL cR (qv 5) (bJ wP bC)) bA))) wa))))
  (bH (aeo 1 (bG Qu) ac2 ["_law_door_here","_law_found","?_law_room","?_law_chance","_law_top","_law_bottom"] ["_law_room","_law_chance"] (eX (n:=2) (bN (eF (i:=0)) (bN (eF (i:=1)) c7))) (Bu (b_ (lN hr.units) (bJ we bC) bC)) (dN (bx wn (bx we bA))))))) ?_
 rintro _ R ⟨d,m,rfl,h,q⟩;have lp:=h.few;refine fL nwT d.prs (λas o=>∃x y u v,o=[.fz (ldT d),.d1 (nKs (gk as)) (nTs (gk as)),x,y,u,v]) ⟨_,_,_,_,rfl⟩ ?_ ?_
 .rintro as a bs _ e ⟨x,y,u,v,rfl⟩;obtain⟨⟨n1,n2⟩,n3,n4⟩:=ajF h e;have nd:=(C_ (gk as) a.1).den_pos;have ad:=a.2.den_pos;refine⟨rfl,_,rfl,?_⟩;dsimp only[frz];have ev:=adv (gk as) a.1;rw[show L2.T.tup [L2.T.int 0,L2.T.int 1]=frR 0 from rfl,ev];generalize er:C_ (gk as) a.1=r at n1 n2 nd;have pp:(0:Int)<((r.den:Nat):Int)*((a.2.den:Nat):Int):=XZ wo wo;refine⟨rfl,⟨d7 (Y3 n2 wp),d7 (by omega)⟩,⟨d7 (Y3 n4 wp),d7 (by omega)⟩,⟨d7 (by omega),d7 (by omega)⟩,_,_,rfl,pp,d7 ?_,_,rfl,?_,.fz (.int (a.1:Nat)),.fz (frR a.2),.fz (.int r.num),.fz (.int (r.den:Nat)),?_⟩
  .rw[VT,XT,XT];exact Y3 (VS n1 n3) wp
  .have:=N8 as;have:as.length<=d.prs.length:=by rw[e];simp
   rw[ak];exact Y3 (show _<=4 by lia) wp
  .obtain⟨k1,k2⟩:=aho (gk as) a (acJ as);have ex:Rat.divInt (r.num*((a.2.den:Nat):Int)+a.2.num*((r.den:Nat):Int)) (((r.den:Nat):Int)*((a.2.den:Nat):Int))=C_ (gk as) a.1+a.2:=by
    rw[er]
    conv=>rhs;rw[<- rd r,<- rd a.2]
    rw[JJ _ _ wo wo]
   rw[show gk (as++[a])=oN (gk as) a from by rw[Zk];rfl,<- k1,<- k2,<- ex]
   rfl
 .rintro _ ⟨x,y,u,v,rfl⟩;have jl:=N8 d.prs;refine⟨by rw[ak];exact aL (show _<=4 by exact aL jl lp) wp,?_⟩;have e:((nKs (gk d.prs)).zip (nTs (gk d.prs))).map (λp=>L2.T.tup [kT p.1,p.2])=(gk d.prs).map nwT:=by
   rw[List.zip_map',WS];rfl
  dsimp only;rw[e];refine jo nwT (λp=>!decide (p.2=0)) nwT (gk d.prs) (λp hp N M hN hM=>⟨rfl,?_⟩) q;have ez:decide (p.2.num=0)=decide (p.2=0):=decide_eq_decide.mpr ⟨λz=>Rat.num_eq_zero.mp z,λz=>by rw[z];rfl⟩;refine sw2 (λh=>hN ?_) λh=>hM ?_
  .rw[<- h];exact ZH (λb=>!b) ez.symm
  .rw[<- h];exact ZH (λb=>!b) ez.symm
def wsL(ae:zI):wx:=ae.map λds=>ds.map λd=>mZ d.prs
abbrev waT(W:wx):L2.T:=.lst (W.map λds=>.lst (ds.map wsT))
def Gi:ST:=λts q=>∃(m mo:Nat)(ae:zI),ts=[XR ae]/\DSk m mo ae/\m<=100/\mo<=100/\q (.l1 ((wsL ae).map λds=>.lst (ds.map wsT)))
def Vf(T:Tx D):gT 4 wU oJ Gi:=ya T.Xg λF=>by
 refine F.okT Vq (λ_ _=>bH (bO (dG (bG qU) pR pR ["_law_doors_here"] (cj wn) (eF (i:=0)) cA (YX (bG qU) ("_law_doors_here"::pR) ("_law_doors_here"::pR) ["_law_door_here"] (cj wn) (eF (i:=0)) cA (bI (afT T) (bx wn bA)))))) ?_;rintro _ R ⟨m,mo,ae,rfl,h,m1,m2,q⟩;have dl:=h.len;refine⟨by rw[ak];exact aL (show _<=100 by exact aL (WG dl) m1) wp,comp_map (λds=>.lst (ds.map ldT)) (λds=>.lst ((ds.map λd=>mZ d.prs).map wsT)) ae (λds fA N M hN=>⟨by rw[ak];exact aL (show _<=100 by have:=h.few ds fA;exact aL this m2) wp,comp_map ldT (λd=>wsT (mZ d.prs)) ds (λd hd N' M' hN'=>⟨d,m,rfl,h.ok ds fA d hd,hN'⟩) (by rw[WS]at hN;exact hN)⟩) ?_⟩;unfold wsL at q;rw[WS]at q;exact q
structure W_(m:Nat)(ws:zh):Prop where
 few:ws.length<=4
 lt:∀w∈ws,w.1<m
 b:∀w∈ws,w.2.den<=4000/\w.2.num.natAbs<=4000
def aiS{b n d x y:Int}(ha:a.natAbs<=10^(44*k))(hb:b.natAbs<=10^(44*k))(hn:n.natAbs<=4000)(hd:d.natAbs<=4000)(hx:x.natAbs<=10^39)(hy:y.natAbs<=10^39):(d*y).natAbs<=10^43/\(n*x).natAbs<=10^43/\(a*(d*y)+n*x*b).natAbs<=10^(44*(k+1))/\(b*(d*y)).natAbs<=10^(44*(k+1)):=by
 have p1:(d*y).natAbs<=4000*10^39:=by rw[VT];exact VS hd hy
 have p2:(n*x).natAbs<=4000*10^39:=by rw[VT];exact VS hn hx
 have e:10^(44*(k+1))=10^(44*k)*10^44:=by rw[Nat.mul_add,Nat.pow_add]
 refine⟨aL p1 wp,aL p2 wp,?_,?_⟩<;>rw[e]
 .refine aL (Int.natAbs_add_le ..) ?_;rw[VT a,VT (n*x)];have h1:=VS ha p1;have h2:=VS p2 hb;rw[Nat.mul_comm (4000*10^39)]at h2;have h3:10^(44*k)*(4000*10^39+4000*10^39)<=10^(44*k)*10^44:=Nat.mul_le_mul_left _ wp;rw[Nat.mul_add]at h3;lia
 .rw[VT b];exact VS hb (aL p1 wp)
def YC:ST:=λts q=>∃(ws:zh)(xs:xo),ts=[wsT ws,.lst (xs.map frR)]/\W_ xs.length ws/\(∀x∈xs,FnB (10^39) x)/\∀a b:Int,0<b->a.natAbs<=10^176->b.natAbs<=10^176->Rat.divInt a b=dw ws (xG xs)->q (.fz (.tup [.int a,.int b]))
def afl(T:Tx D):gT 1 Qa Cr YC:=ya T.ahK λF=>by
 refine F.okT aej (λ_ _=>bF (bQ 2 bC)
  (bF (bQ 3 bC)
  (bF (dU (cj wn) (eX (n:=2) (bN (bY (n:=99) 4) (bN (bY (n:=99) 5) c7)))
  (bF (bQ 6 (bL cR (bJ (qv 5) bC) (bJ (bJ we wE) bC)))
  (bF (bQ 2 (bL cD (bL cR wa (qv 6)) (bL cR (bL cR (bJ (qv 5) bC) (bJ (bJ we wE) bC)) wP)))
  (bH (bQ 3 (bL cR wP (qv 6)))))))
  (bH (bO (dN (bx wa (bx wP bA)))))))) ?_
 rintro _ R ⟨ws,xs,rfl,h,hx,q⟩;refine fL nwT ws (λas o=>∃(a b:Int)(x y z:OT),o=[.fz (wsT ws),.fz (.lst (xs.map frR)),.fz (.int a),.fz (.int b),x,y,z]/\0<b/\a.natAbs<=10^(44*as.length)/\b.natAbs<=10^(44*as.length)/\Rat.divInt a b=dw as (xG xs)) ⟨0,1,_,_,_,rfl,by decide,by decide,by decide,rfl⟩ ?_ ?_
 .rintro as v bs _ e ⟨a,b,x,y,z,rfl,b0,ha,hb,ev⟩;have hv:v∈ws:=by rw[e];exact aP _ (aO ..)
  have l4:as.length+1<=4:=by have:=h.few;rw[e,aA,List.length_cons]at this;lia
  have er:=aj (h.lt v hv);have gr:xG xs v.1=xs[v.1]'(h.lt v hv):=by show xs.getD v.1 0=_;rw[au,er];rfl
  generalize xs[v.1]'(h.lt v hv)=r at er gr;have fr:=hx r (aC er);obtain⟨w1,w2⟩:=h.b v hv;obtain⟨c1,c2,c3,c4⟩:=aiS (n:=v.2.num) (d:=((v.2.den:Nat):Int)) (x:=r.num) (y:=((r.den:Nat):Int)) ha hb w2 (by rwa[XT]) fr.n (by rw[XT];exact fr.d);have vd:=v.2.den_pos;have rp:=r.den_pos;have up:∀{i:Int},i.natAbs<=10^(44*as.length)->Bd i:=λhi=>Lp (n:=132) (aL hi (XU wp wo)) wp;have dp:(0:Int)<((v.2.den:Nat):Int)*((r.den:Nat):Int):=XZ wo wo;refine⟨rfl,_,dB er,⟨d7 wo,Lp (n:=39) (by rw[XT];exact fr.d) wp⟩,⟨up ha,Lp (n:=43) c1 wp⟩,_,dB er,⟨d7 (Y3 w2 wp),Lp (n:=39) fr.n wp⟩,⟨Lp (n:=43) c2 wp,up hb⟩,⟨up hb,Lp (n:=43) c1 wp⟩,_,_,_,_,_,rfl,XZ b0 dp,?_,?_,?_⟩
  .rw[aA];exact c3
  .rw[aA];exact c4
  .rw[KR,WQ,<- ev,gr]
   conv=>rhs;rw[<- rd v.2,<- rd r]
   rw[Rat.divInt_mul_divInt,JJ _ _ (WU b0) (WU dp)]
 .rintro _ ⟨a,b,x,y,z,rfl,b0,ha,hb,ev⟩;have up:∀{i:Int},i.natAbs<=10^(44*ws.length)->i.natAbs<=10^176:=λhi=>aL hi (XU wp (by have:=h.few;lia));exact q a b b0 (up ha) (up hb) ev
def Er(W:wx)(pl:zt)(k:Nat):zh:=match pl.getD k none with
 |none=>[]
 |some d=>(W.getD k []).getD d []
def tkL(W:wx)(pl:zt)(n:Nat):List zh:=(List.range n).map (Er W pl)
structure FtW(W:wx)(pl:zt):Prop where
 few:W.length<=100
 len:pl.length=W.length
 at_:∀k d,pl[k]?=some (some d)->d<(W.getD k []).length
def Ut:ST:=λts q=>∃(W:wx)(pl:zt),ts=[waT W,.lst (pl.map dT)]/\FtW W pl/\q (.l1 ((tkL W pl W.length).map wsT))
def ady(T:Tx D):gT 1 Km wz Ut:=ya T.afM λF=>by
 refine F.okT abq (λ_ _=>bF (iu 2 (cF bA))
  (bF (dU (dW T.fQ (bx (bM cI T.dI WJ (bx wn bA)) bA)) (bY (n:=99) 3)
  (bH (cC (b_ Bj (bJ we wP) fY)
  (bH (rR 2 (cF bA)))
  (bH (rR 2 (bJ (bJ wn wP) (bJ we wP)))))))
  (bH (ji 2)))) ?_
 rintro _ R ⟨W,pl,rfl,h,q⟩;have few:=h.few;have len:=h.len;have lm:(W.map λds=>L2.T.lst (ds.map wsT)).length=W.length:=ak ..;refine⟨⟨by lia,by lia⟩,mW (n:=(W.map λds=>L2.T.lst (ds.map wsT)).length) (λk o=>∃x,o=[.fz (waT W),.fz (.lst (pl.map dT)),.l1 ((tkL W pl k).map wsT),x]) ⟨_,rfl⟩ ?_ ?_⟩
 .rintro k _ hk ⟨x,rfl⟩;have ep:=aj (show k<pl.length by lia);have ew:=aj (show k<W.length by exact aR hk (WG lm));have sn:∀ws,Er W pl k=ws->(tkL W pl (k+1)).map wsT=(tkL W pl k).map wsT++[wsT ws]:=λws e=>by
   unfold tkL;rw[List.range_succ,bf,bf,<- e];rfl
  have ll:((tkL W pl k).map wsT).length<sizeLine:=by
   unfold tkL;rw[ak,ak,WP];exact Y3 (show _<=100 by lia) wp
  generalize hd:pl[k]' wo=d at ep;have gd:pl.getD k none=d:=by rw[au,ep];rfl
  cases d with
  |none =>
   refine⟨_,dB ep,ll,.fz (.int (k:Nat)),?_⟩;rw[sn [] (by unfold Er;rw[gd])]
   rfl
  |some d =>
   have ld:=h.at_ k d ep;have gw:W.getD k []=W[k]'(aR hk (WG lm)):=by rw[au,ew];rfl
   rw[gw]at ld;have ed:=aj ld;refine⟨_,dB ep,_,dB ew,_,dB ep,_,dB ed,ll,.fz (.int (k:Nat)),?_⟩;rw[sn ((W[k]'(aR hk (WG lm)))[d]) (by unfold Er;rw[gd,gw];show(W[k]'_).getD d []=_;rw[au,ed];rfl)]
   rfl
 .rintro _ ⟨x,rfl⟩;rwa[lm]
structure ChW(m:Nat)(gs:zD)(tk:Nat->zh)(x:Nat->Rat):Prop where
 goal:∀k,k<m->mkF gs k=true->x k=1
 rest:∀S,Lfp false m (mkF gs) (λk=>[(tk k).map (·.1)]) S->∀k,k<m->mkF gs k=false->x k=if S k=true then dw (tk k) x else 0
def aiD{b:Int}{x:Rat}(b0:0<b)(e:Rat.divInt a b=x):x.num*b=a*((x.den:Nat):Int):=by
 have d:=x.den_pos;have e:Rat.divInt a b=Rat.divInt x.num ((x.den:Nat):Int):=by rw[e,rd]
 have:=(JP (WU b0) wo).mp e
 grind
def afG(W:wx)(pl:zt)(n:Nat):(tkL W pl n).length=n:=by unfold tkL;rw[ak,WP]
def acs{W:wx}(h:k<n):(tkL W pl n)[k]?=some (Er W pl k):=by unfold tkL;rw[aq,VX h];rfl
def adG{W:wx}(wb:∀ds∈W,∀w∈ds,W_ m w)(k:Nat):W_ m (Er W pl k):=by
 have nil:W_ m []:=⟨aZ _,λ_ z=>(nomatch z),λ_ z=>(nomatch z)⟩;unfold Er;split
 .exact nil
 .rename_i d _
  rw[au (l:=W.getD k [])];cases e:(W.getD k [])[d]? with
  |none=>exact nil
  |some w =>
   rw[au]at e;cases e':W[k]? with
   |none=>rw[e']at e;cases e
   |some ds=>rw[e']at e;exact wb ds (aC e') w (aC e)
def Ga:ST:=λts q=>∃(xs:xo)(W:wx)(gs:zD)(pl:zt),ts=[.lst (xs.map frR),waT W,ntT gs,.lst (pl.map dT)]/\xs.length=W.length/\(∀x∈xs,FnB (10^39) x)/\FtW W pl/\(∀ds∈W,∀w∈ds,W_ W.length w)/\ChW W.length gs (Er W pl) (xG xs)/\q (.fz (.bl true))
def Wi(T:Tx D):gT 4 Ax qy Ga:=ya T.ZS λF=>by
 refine F.okT Xo (λhr _=>bF (cC (dZ (cY (bI (Px T) (bx wn (bx (bM cI T.dI WJ (bx we bA)) bA)))))
  (bH (bO gW))
  bR)
  (bF (bQ 4 (bI (ady T) (bx we (bx wP bA))))
  (bF (bQ 5 (bI (ae0 T) (bx wE (bx wa bA))))
  (bF (dU (dW T.fQ (bx (bM cI T.dI WJ (bx we bA)) bA)) (bY (n:=99) 6)
  (bF (bQ 7 (dN (bx bC (bx bC bA))))
  (bF (cC (b_ (agc hr.units) (qv 6) wa (hm:=by rfl))
  (bH (bQ 7 (dN (bx bC (bx bC bA)))))
  (bH (cC (cY (bJ (qv 5) (qv 6)))
  (bH (bQ 7 (bI (afl T) (bx (bJ wE (qv 6)) (bx wn bA)))))
  bR)))
  (bH (cC (b_ (lN hr.units) (bL cR (bJ (bJ wn (qv 6)) bC) (bJ (qv 7) bC)) (bL cR (bJ (qv 7) bC) (bJ (bJ wn (qv 6)) bC)))
  (bH (bO gW))
  bR)))))
  (bH (bO gW)))))) ?_
 rintro _ R ⟨xs,W,gs,pl,rfl,lx,hx,ft,wb,ch,q⟩;have few:=ft.few;have lm:((W.map λds=>L2.T.lst (ds.map wsT)).length:Int)=(W.length:Nat):=by rw[ak]
 have tl:=afG W pl W.length;have tw:=λk=>adG (pl:=pl) wb k;refine⟨xs,W.length,ZH (λz=>[L2.T.lst (xs.map frR),L2.T.int z]) lm,lx,by exact aL few wp,W,pl,rfl,ft,tkL W pl W.length,gs,rfl,by exact aL (WG tl) few,λws hm=>?_,λL ll lf=>?_⟩
 .obtain⟨k,ek,rfl⟩:=YV.mp hm;rw[tl];exact⟨aL (tw k).few wp,(tw k).lt⟩
 rw[tl]at ll lf;have lf:Lfp false W.length (mkF gs) (λk=>[(Er W pl k).map (·.1)]) (mkG L):=lf.ld λk hk=>by
  show[((tkL W pl W.length).getD k []).map (·.1)]=_;rw[au,acs hk];rfl
 refine⟨⟨by lia,by lia⟩,mW (n:=(W.map λds=>L2.T.lst (ds.map wsT)).length) (λ_ o=>∃x y,o=[.fz (.lst (xs.map frR)),.fz (waT W),.fz (ntT gs),.fz (.lst (pl.map dT)),.fz (.lst ((tkL W pl W.length).map wsT)),.fz (blT L),x,y]) ⟨_,_,rfl⟩ ?_ ?_⟩
 .rintro k _ hk ⟨x,y,rfl⟩;have hk:k<W.length:=by lia
  have er:=aj (show k<xs.length by lia);have gr:xG xs k=xs[k]' wo:=by show xs.getD k 0=_;rw[au,er];rfl
  generalize xs[k]' wo=r at er gr;have fr:=hx r (aC er);refine sq2 (λo=>∃a b:Int,0<b/\a.natAbs<=10^176/\b.natAbs<=10^176/\Rat.divInt a b=r/\o=[.fz (.lst (xs.map frR)),.fz (waT W),.fz (ntT gs),.fz (.lst (pl.map dT)),.fz (.lst ((tkL W pl W.length).map wsT)),.fz (blT L),.fz (.int (k:Nat)),.fz (.tup [.int a,.int b])]) ?_ λY hY=>?_
  .rintro _ ⟨a,b,b0,ha,hb,e,rfl⟩;refine⟨_,dB er,⟨Lp (n:=39) fr.n wp,Lp (n:=176) hb wp⟩,_,dB er,⟨Lp (n:=176) ha wp,Lp (n:=39) (by rw[XT];exact fr.d) wp⟩,swF ?_ ⟨_,_,rfl⟩⟩;rw[aiD b0 e,Zs rfl];rfl
  .have go:∀a b:Int,0<b->a.natAbs<=10^176->b.natAbs<=10^176->Rat.divInt a b=r->Y [.fz (.lst (xs.map frR)),.fz (waT W),.fz (ntT gs),.fz (.lst (pl.map dT)),.fz (.lst ((tkL W pl W.length).map wsT)),.fz (blT L),.fz (.int (k:Nat)),.fz (.tup [.int a,.int b])]:=λa b b0 ha hb e=>hY _ ⟨a,b,b0,ha,hb,e,rfl⟩;refine⟨inD k,gs.map inD,rfl,alK gs,rfl,jO.lst gs,?_⟩;rw[aaW];have cr:=ch.rest _ lf k hk;rw[gr]at cr;have eL:=aj (show k<L.length by lia);have gL:mkG L k=L[k]' wo:=by show L.getD k false=_;rw[au,eL];rfl
   generalize L[k]' wo=bb at eL gL;rw[gL]at cr;cases em:mkF gs k with
   |true=>exact go 1 1 wp wp wp (by have:=ch.goal k hk em;rw[gr]at this;rw[this];rfl)
   |false =>
    have cr:=cr em;cases bb with
    |true=>exact⟨_,dB eL,_,dB (acs hk),Er W pl k,xs,rfl,by rw[lx];exact tw k,hx,λa b b0 ha hb e=>go a b b0 ha hb (by rw[e,cr];rfl)⟩
    |false=>exact⟨_,dB eL,go 0 1 wp wp wp (by rw[cr];rfl)⟩
 .rintro _ ⟨x,y,rfl⟩;exact q
structure PlD(ae:zI)(pl:zt):Prop where
 len:pl.length=ae.length
 ok:∀(k:Nat)(d:xC)(ds:List LD),pl[k]?=some d->ae[k]?=some ds->w6 d ds.length=true
def PlD.snoc{ae:zI}(h:∀(i:Nat)(d:xC)(ds:List LD),i<k->pl[i]?=some d->ae[i]?=some ds->w6 d ds.length=true)(l:pl.length=k){ds:List LD}(ek:ae[k]?=some ds)(hd:w6 d ds.length=true):∀(i:Nat)(c:xC)(es:List LD),i<k+1->(pl++[d])[i]?=some c->ae[i]?=some es->w6 c es.length=true:=λi c es hi e1 e2=>by
 by_cases z:i<k
 .rw[aF wo]at e1;exact h i c es z e1 e2
 .have:i=k:=by lia
  subst this;rw[aD (WG l),show i-pl.length=0 by lia]at e1;cases e1;rw[ek]at e2;cases e2;exact hd
def N6:ST:=λts q=>∃(c:Int)(ae:zI),ts=[.int c,XR ae]/\ae.length<=100/\∀pl:zt,PlD ae pl->q (.l1 (pl.map dT))
def ZV(T:Tx D):gT 2 Ef tX N6:=ya T.acM λF=>by
 refine F.okT ZW (λhr _=>bF (bQ 2 (bI (ZK T) (bx wn (bx (bM cI T.dI WJ (bx we bA)) bA))))
  (bF (iu 3 (cF bA))
  (bF (dU (dW T.fQ (bx (bM cI T.dI WJ (bx we bA)) bA)) (bY (n:=99) 4)
  (bH (cC (b_ (yY hr.units) (bM cI T.dI WJ (bx (bJ we wE) bA)) bC)
  (bH (rR 3 fY))
  (bH (rR 3 (bL cB (bJ wa wE) (bM cI T.dI WJ (bx (bJ we wE) bA))))))))
  (bH (ji 3))))) ?_
 rintro _ R ⟨c,ae,rfl,few,q⟩;have dl:(ae.map λds=>L2.T.lst (ds.map ldT)).length=ae.length:=ak ..;refine⟨c,ae.length,by rw[<- dl];rfl,by exact aL few wp,⟨by rw[dl];lia,by rw[dl];lia⟩,?_⟩;refine mW (λk o=>∃(pl:zt)(x:OT),o=[.fz (.int c),.fz (XR ae),.fz (.lst ((iY c ae.length).map L2.T.int)),.l1 (pl.map dT),x]/\pl.length=k/\∀(i:Nat)(d:xC)(ds:List LD),i<k->pl[i]?=some d->ae[i]?=some ds->w6 d ds.length=true) ⟨[],.und,rfl,rfl,λi d ds z=>absurd z (WZ _)⟩ ?_ ?_
 .rintro k _ hk ⟨pl,x,rfl,l,h⟩;have hk:k<ae.length:=by rw[dl]at hk;lia
  have ek:=aj hk;have kL:ixT (ae.map λds=>L2.T.lst (ds.map ldT)) (k:Nat)=some (.lst (ae[k].map ldT)):=dB ek;have lm:(pl.map dT).length<sizeLine:=by rw[ak];exact aR (show _<1000 by lia) wp
  have s0:=rG c k;refine⟨_,kL,?_⟩;by_cases e:ae[k].length=0
  .refine swT (Zs (by rw[ak];lia)) ⟨lm,pl++[none],.fz (.int (k:Nat)),by rw[bf];rfl,by simp[l],PlD.snoc h l ek (Zs e)⟩
  .have p0:(0:Int)<(ae[k].map ldT).length:=by rw[ak];lia
   refine swF (Zp (by rw[ak];lia)) ⟨_,gZ (k:=k) hk,_,kL,p0,lm,?_⟩;have a0:=Z3 (yQ c k) (show((ae[k].map ldT).length:Int)≠0 by exact WU p0);have a1:=YY (yQ c k) p0;obtain⟨n,en⟩:=Zzu a0;refine⟨pl++[some n],.fz (.int (k:Nat)),?_,by simp[l],PlD.snoc h l ek (Zs ?_)⟩
   .rw[bf];show _=[_,_,_,OT.l1 (pl.map dT++[L2.T.int (n:Nat)]),_];rw[<- en]
    rfl
   .rw[ak]at a1 en;lia
 .rintro _ ⟨pl,x,rfl,l,h⟩;have l:pl.length=ae.length:=by rwa[l]
  exact q pl ⟨l,λk d ds e1 e2=>h k d ds (by rw[dl];have:=(ao.mp e1).1;lia) e1 e2⟩
def afm{ae:zI}{off:zi}(ho:Gk ae off)(k d:Nat):∃t:Str,(off.getD k [])[d]?=((ae.getD k [])[d]?).map (afu t):=by
 by_cases hk:k<ae.length
 .have e1:=aj hk;have e2:=aj (show k<off.length by rwa[ho.len]);obtain⟨tl,l,eo⟩:=ho.at_ k _ _ e1 e2;rw[au,au,e1,e2];show ∃t,(off[k]'(by rwa[ho.len]))[d]?=(ae[k][d]?).map (afu t);rw[eo,aq];by_cases hd:d<ae[k].length
  .refine⟨tl[d]' wo,?_⟩;rw[aj (show d<(tl.zip ae[k]).length by rw[W1];lia),aj hd,JU]
   rfl
  .exact⟨⟨#[]⟩,by rw[aM (show(tl.zip ae[k]).length<=d by rw[W1];lia),aM (show ae[k].length<=d by exact Up hd)];rfl⟩
 .have e1:ae[k]?=none:=aM (Up hk);have e2:off[k]?=none:=aM (by rw[ho.len];exact Up hk);exact⟨⟨#[]⟩,by rw[au,au,e1,e2];rfl⟩
def al1{off:zi}{ds:List bV}(e:pl[k]?=some d)(eo:off[k]?=some ds):cG off pl k=d.bind λd=>ds[d]?:=by
 show(chO off pl).getD k none=_;rw[agy e,au,eo]
 rfl
def PlT.room{off:zi}(hp:PlT off pl){ds:List bV}(eo:off[k]?=some ds):∃d,pl[k]?=some d/\w6 d ds.length=true:=by
 have l:k<pl.length:=by rw[hp.len];exact(ao.mp eo).1
 exact⟨_,aj l,hp.ok k _ ds (aj l) eo⟩
def Lfp.jn_{e:Bool}{mk:Nat->Bool}{ld kc:Nat->wf}(h:Lfp e m mk ld S)(el:∀k,k<m->∀A,jn e (ld k) A=jn e (kc k) A):Lfp e m mk kc S:=⟨h.base,λk hk j=>h.step k hk (by rwa[el k hk]),λA a b=>h.least A a λk hk j=>b k hk (by rwa[<- el k hk])⟩
def alx(c:xN)(A:Nat->Bool):jn false (ldC c) A=jn false [(ug c).map (·.1)] A:=by cases c<;>rfl
def ahl{c:Nat->xN}{x:Nat->Rat}(h:BL m (mkF gs) c S x){tk:Nat->zh}(e:∀k,k<m->tk k=ug (c k)):ChW m gs tk x:=⟨h.goal,λS' l k hk g=>by
 have l:Lfp false m (mkF gs) (λk=>[(ug (c k)).map (·.1)]) S':=l.ld λk hk=>by rw[e k hk]
 have es:=ahF (h.lf.jn_ λk hk A=>alx (c k) A) l hk;rw[<- es,e k hk];cases s:S k with
 |true=>rw[ZY rfl];exact h.mean k hk g s
 |false=>rw[ZZ wp];exact h.no k hk s⟩
def agr(ae:zI)(k:Nat):(wsL ae).getD k []=(ae.getD k []).map λd=>mZ d.prs:=by
 unfold wsL;rw[au,au,aq];cases ae[k]?<;>rfl
def ach{ae:zI}{off:zi}(ho:Gk ae off)(hp:PlT off pl)(hk:k<off.length):Er (wsL ae) pl k=ug (cG off pl k):=by
 have eo:=aj hk;obtain⟨d,ed,fd⟩:=hp.room eo;rw[al1 ed eo];unfold Er;rw[show pl.getD k none=d by rw[au,ed];rfl];cases d with
 |none=>rfl
 |some j =>
  obtain⟨t,et⟩:=afm ho k j;show((wsL ae).getD k []).getD j []=ug (off[k][j]?);rw[show off.getD k []=off[k]by rw[au,eo];rfl]at et;rw[et,agr,au,aq];cases(ae.getD k [])[j]?<;>rfl
def X3{ae:zI}{off:zi}(ho:Gk ae off){ds:List LD}{os:List bV}(e1:ae[k]?=some ds)(e2:off[k]?=some os):os.length=ds.length:=by
 obtain⟨tl,l,rfl⟩:=ho.at_ k ds os e1 e2;rw[ak,W1,l,VU]
def QB{ae:zI}{off:zi}(ho:Gk ae off)(hp:PlD ae pl):PlT off pl:=⟨hp.len.trans ho.len.symm,λk d os ep eo=>by
 have ed:=aj (show k<ae.length by rw[<- ho.len];exact(ao.mp eo).1);rw[X3 ho ed eo];exact hp.ok k d _ ep ed⟩
def ahc{mo:Nat}{ae:zI}(hd:DSk m mo ae)(m1:m<=100)(hp:PlD ae pl):FtW (wsL ae) pl:=by
 have lw:(wsL ae).length=ae.length:=by unfold wsL;rw[ak]
 refine⟨by rw[lw,hd.len];exact m1,hp.len.trans lw.symm,λk d ep=>?_⟩;have lk:k<ae.length:=by rw[<- hp.len];exact(ao.mp ep).1
 have ed:=aj lk;have:=hp.ok k _ _ ep ed;rw[agr,ak,au,ed];exact of_decide_eq_true this
def ak1{mo:Nat}{ae:zI}(hd:DSk m mo ae):∀ds∈wsL ae,∀w∈ds,W_ (wsL ae).length w:=λds fA w hw=>by
 obtain⟨es,he,rfl⟩:=YV.mp fA;obtain⟨d,hm,rfl⟩:=YV.mp hw;have lw:(wsL ae).length=m:=by unfold wsL;rw[ak,hd.len]
 have lk:=hd.ok es he d hm;obtain⟨q,q0,q1,hq⟩:=lk.all;have j:=Pb q0 hq;have f1:=j.few;have f2:=lk.few;refine⟨by exact aL f1 f2,λp hp=>by rw[lw];exact j.lt p hp,λp hp=>?_⟩;have dl:=UX q0 (j.dn p hp);have l1:=m7 j.nn hp;rw[j.sum,zu,lk.one]at l1;have n0:=j.nn p hp;have:p.2.num.natAbs<=1*p.2.den:=R4 (A:=1) (by show p.2<=((1:Nat):Rat);rw[show((1:Nat):Rat)=1 from rfl];exact l1) (by show -((1:Nat):Rat)<=p.2;rw[show((1:Nat):Rat)=1 from rfl];grind);lia
structure QSB(X:Cx)(st:Stmt)(r:RS):Prop where
 out:QS X st r
structure afF(X:Cx)(ss:xB)(r:RS):Prop where
 out:QSs X ss r
def je{st:Stmt}{r:RS}(h:QS X st r):QSB X st r:=⟨h⟩
def acu{st:Stmt}{a:RS}(h:QSB X st a):afF X [st] a:=⟨bH h.out⟩
def dO{st:Stmt}{js:xB}{a b:RS}(h1:QSB X st a)(h2:afF X js b):afF X (st::js) (h_ a b):=⟨bF h1.out h2.out⟩
def af0{e:Expr}{re:RE}{pos:Pos}(i:Nat){ay:Pos}(hN:X.N.Nodup)(hx:Loc X.env.scope x)(he:QEB X e re)(hi:X.N[i]?=some x:=by rfl)(hs:swapsWith e (some (.Name x ay)) pos.line X.env=pure false:=by rfl)(hf:qi X x:=by first|exact .inl rfl|exact .inr rfl|assumption):QSB X (.Assign [.Name x ay] e pos) (agS i re):=⟨bQ (i:=i) (hN:=hN) (hx:=hx) (he:=he.out) (hi:=hi) (hs:=hs) (hf:=hf)⟩
def aht{a b:Expr}{ra rb:RE}{pos:Pos}(ha:QEB X a ra)(hb:QEB X b rb)(hs:pH b:=by exact λ_ _=>rfl):QEB X (.Subscript a b pos) (rOp gIx ra rb):=⟨bJ ha.out hb.out hs⟩
def agX(c:Int):∃s:Rat,Shr s/\ixT [L2.T.tup [.int 1,.int 2],.tup [.int 0,.int 1],.tup [.int 2,.int 3],.tup [.int 99,.int 100]] (c%4)=some (frR s):=by
 rcases(show c%4=0\/c%4=1\/c%4=2\/c%4=3 by lia)with z|z|z|z<;>rw[z]
 .exact⟨mkRat 1 2,⟨by decide,by decide,by decide⟩,rfl⟩
 .exact⟨0,⟨by decide,by decide,by decide⟩,rfl⟩
 .exact⟨mkRat 2 3,⟨by decide,by decide,by decide⟩,rfl⟩
 .exact⟨mkRat 99 100,⟨by decide,by decide,by decide⟩,rfl⟩
abbrev plT(p:zt):L2.T:=.lst (p.map dT)
def o36(D:Adr)(ns:xy)(s:Rat)(ae:zI)(nm:Θ)(off:zi)(g0 g1:zD)(p0 p1:zt)(he dr ce ke od du fo wh:OT):zC:=[.fz (scT ns),.fz (XR ae),.fz (waT (wsL ae)),.fz (frR s),.fz (hlT D s nm off),.fz (.lst [ntT g0,ntT g1]),.fz (.lst [plT p0,plT p1]),.fz (.lst [ntT g0,ntT g1,plT p0,plT p1]),he,dr,ce,ke,od,du,fo,wh]
structure ajC(m:Nat)(ae:zI)(nm:Θ)(off:zi)(g0 g1:zD)(p0 p1:zt):Prop where
 m8:m<=8
 hd:DSk m 3 ae
 ho:Gk ae off
 ln:nm.length=m
 z:HlZ nm off
 l0:g0.length<=9
 hg0:XJ nm g0
 hg1:XJ nm g1
 hp0:PlD ae p0
 hp1:PlD ae p1
def ag1(nm:Θ)(off:zi)(gs:zD)(pl:zt)(xs:xo):Prop:=XsB nm.length xs/\∃S,BL nm.length (mkF gs) (cG off pl) S (xG xs)
def ab3{ae:zI}{nm:Θ}{off:zi}{g0 g1:zD}{p0 p1:zt}(d:ajC m ae nm off g0 g1 p0 p1)(hp:PlD ae pl){xs:xo}(c:ag1 nm off gs pl xs):xs.length=(wsL ae).length/\(∀x∈xs,FnB (10^39) x)/\FtW (wsL ae) pl/\(∀ds∈wsL ae,∀w∈ds,W_ (wsL ae).length w)/\ChW (wsL ae).length gs (Er (wsL ae) pl) (xG xs):=by
 have lw:(wsL ae).length=nm.length:=by unfold wsL;rw[ak,d.hd.len,d.ln]
 obtain⟨xb,S,c⟩:=c;have m8:=d.m8;refine⟨xb.len.trans lw.symm,xb.fn,ahc d.hd (aL m8 wp) hp,ak1 d.hd,?_⟩;rw[lw];exact ahl c λk hk=>ach d.ho (QB d.ho hp) (by have:=d.z.h.len;lia)
def afL{ae:zI}{off:zi}(ho:Gk ae off):off.map List.length=ae.map List.length:=by
 refine UV (by rw[ak,ak,ho.len]) λk k1 k2=>?_;rw[ak]at k1 k2;rw[VZ,VZ];exact X3 ho (aj k2) (aj k1)
def BZ{α:Type}[DecidableEq α]{h:α->L2.T}{g:α->PyData}(E:EqD h g)(xs:List α):PyData.eqv (.list (xs.map g)) (.list (xs.map g))=true:=by
 unfold PyData.eqv;rw[Vk E.eqv,Zs rfl]
abbrev xsT(xs:xo):L2.T:=.lst (xs.map frR)
def acw:ST:=λts q=>∃ns:xy,ts=[scT ns]/\ns.length<=63/\q (.fz (.bl true))
def aiB(T:Tx D)(F:Fu Xl T5 f fd):FT 13 f fd R9 acw:=by
 refine F.okT Wu (λhr _=>afF.out (dO (je (bQ 1 (bI (adE T) (bx wn (bx bC (bx (bI (aef T) (bx (bI (aeN T) (bx wn (bx bC bA))) bA)) (bx bC bA)))))))
  (dO (je (bQ 2 (bI (Vf T) (bx we bA))))
  (dO (af0 3 Wu.nd (Or.inl rfl) (aht (Qf (cX (pB (cX kY (cX kY kW))) (cX (pB (cX kY (cX kY kW))) (cX (pB (cX kY (cX kY kW))) (cX (pB (cX kY (cX kY kW))) kW))))) (Wc cB (Wc iD (A_ (bI (aeN T) (bx wn (bx bC bA)))) kY) kY)))
  (dO (je (bQ 4 (bI (aeG T) (bx (bI (aeN T) (bx wn (bx bC bA))) (bx wP (bx we bA))))))
  (dO (je (bQ 5 (cF (bx (bI (acD T) (bx (bI (aeN T) (bx wn (bx bC bA))) (bx (bM cI T.dI WJ (bx we bA)) bA))) (bx (bI (acD T) (bx (bI (aeN T) (bx wn (bx bC bA))) (bx (bM cI T.dI WJ (bx we bA)) bA))) bA)))))
  (dO (je (bQ 6 (cF (bx (bI (ZV T) (bx (bI (aeN T) (bx wn (bx bC bA))) (bx we bA))) (bx (bI (ZV T) (bx (bI (aeN T) (bx wn (bx bC bA))) (bx we bA))) bA)))))
  (dO (je (bQ 7 (cF (bx (lQ zA T.qH boot_list (bx (bJ (qv 5) bC) bA)) (bx (lQ zA T.qH boot_list (bx (bJ (qv 5) bC) bA)) (bx (lQ zA T.qH boot_list (bx (bJ (qv 6) bC) bA)) (bx (lQ zA T.qH boot_list (bx (bJ (qv 6) bC) bA)) bA)))))))
  (dO (je (iu 8 (ah3 (bI (Ls T) (bx wE (bx (bJ (qv 7) bC) (bx (bJ (qv 7) bC) bA)))) (bI (Ls T) (bx wE (bx (bJ (qv 7) bC) (bx (bJ (qv 7) bC) bA)))))))
  (dO (je (nU (bG T5) abj abj ["_law_some"] (cj we) (eF (i:=0)) cA (bM cI T.dI WJ (bx wn bA)) (jU (i:=9) Wu.nd rfl (Or.inl rfl))))
  (dO (je (RX (bI (aaE T) (bx (bL cB (bI (aeN T) (bx wn (bx bC bA))) bC) (bx (bJ (qv 6) bC) (bx (qv 9) bA)))) (eX (n:=2) (bN (bY (n:=99) 12) (bN (bY (n:=99) 13) c7)))))
  (dO (je (cC (b_ (lN hr.units) (bI (Wt T) (bx wE (bx (bJ (qv 5) bC) (bx (qv 12) bA)))) (cF (bx lJ (bx (qv 13) bA))))
  (bH (bO gW))
  bR))
  (dO (je (bQ 10 (bL cB (bI (aeN T) (bx wn (bx bC bA))) bC)))
  (dO (je (cC (dZ (cY (bI (JH T) (bx wE (bx (bM cI T.dI WJ (bx we bA)) (bx (bJ (qv 5) bC) (bx (cF (bx (qv 12) (bx (bJ (qv 6) bC) bA))) (bx (qv 10) bA))))))))
  (bH (bO gW))
  bR))
  (dO (je (cC (dZ (KC 8 (cY (nu .list (bJ (qv 8) bC) T.cH T.qH boot_list))))
  (bH (bO gW))
  bR))
  (dO (je (bQ 11 (ahv 8 (by rfl) T.qH aaV)))
  (dO (je (Zc 8 bC (dN (bx bC (bx bC bA)))))
  (dO (je (afa 8 (bI (Ls T) (bx wE (bx (bJ (qv 7) bC) (bx (bJ (qv 7) bC) bA))))))
  (dO (je (Jh 8 (dU (JL T.Uo (bx (bL cD (cF (bx (qv 11) bA)) (fM (qv 8) (eU bC) nR)) (bx (cF (bx bC (bx bC (bx bC bA)))) bA))) (eX (n:=2) (bN (bY (n:=99) 14) (bN (bY (n:=99) 15) c7)))
  (bH (cC (dZ (cY (bI (Wi T) (bx (qv 14) (bx wa (bx (bJ (qv 5) (qv 15)) (bx (bJ (qv 6) (qv 15)) bA)))))))
  (bH (bO gW))
  bR)))))
  (acu (je (bO (qR (yY hr.units) (qv 7) (bL cD (qv 5) (qv 6))))))))))))))))))))))))) ?_
 rintro _ R ⟨ns,rfl,nl,q⟩;refine sq7 (λo=>∃s m ae nm off g0 g1 p0 p1,ajC m ae nm off g0 g1 p0 p1/\o=o36 D ns s ae nm off g0 g1 p0 p1 .und .und .und .und .und .und .und .und) ?_ λY hY=>?_
 rotate_left
 .refine⟨ns,0,rfl,by exact aL nl wp,_,rfl,λm m8=>⟨ns,6,m,3,rfl,by exact aL nl wp,by exact aL m8 wp,by decide,λae hd=>?_⟩⟩;dsimp only;rw[adV];obtain⟨s,hs,es⟩:=agX (Int.fdiv (ns.getD 1 0) 7);have ml:((ae.map λds=>L2.T.lst (ds.map ldT)).length:Int)=(m:Nat):=by rw[ak,hd.len]
  have two:∀c:Int,[L2.T.int c,L2.T.int ((ae.map λds=>L2.T.lst (ds.map ldT)).length:Int)]=[L2.T.int c,L2.T.int (m:Nat)]:=λc=>ZH (λz=>[L2.T.int c,L2.T.int z]) ml;refine⟨m,3,ae,rfl,hd,by exact aL m8 wp,by decide,ns,1,rfl,by exact aL nl wp,⟨by decide,d7 wp⟩,by decide,_,es,ns,1,rfl,by exact aL nl wp,_,s,m,3,ae,rfl,hs,hd,by exact aL m8 wp,by decide,λnm off hn hok ho=>⟨ns,2,rfl,by exact aL nl wp,_,m,two _,by omega,λg0 l0 h0=>⟨ns,3,rfl,by exact aL nl wp,_,m,two _,by omega,λg1 l1 h1=>⟨ns,4,rfl,by exact aL nl wp,_,ae,rfl,by rw[hd.len];exact aL m8 wp,λp0 hp0=>⟨ns,5,rfl,by exact aL nl wp,_,ae,rfl,by rw[hd.len];exact aL m8 wp,λp1 hp1=>?_⟩⟩⟩⟩⟩;exact⟨_,rfl,_,rfl,_,rfl,_,rfl,hY _ ⟨s,m,ae,nm,off,g0,g1,p0,p1,⟨m8,hd,ho,hn.len,ah2 hn.len m8 hok hd ho,l0,λg hg=>by rw[hn.len];exact h0 g hg,λg hg=>by rw[hn.len];exact h1 g hg,hp0,hp1⟩,rfl⟩⟩
 rintro _ ⟨s,m,ae,nm,off,g0,g1,p0,p1,d,rfl⟩;have m8:=d.m8;have ln:=d.ln;have dl:=d.hd.len;have up:∀{n:Nat},n<=100->n<=sizeLine:=λh=>aL h wp;refine sq3 (λo=>∃(xs ys:xo)(v:L2.T)(dd:PyData),ag1 nm off g0 p0 xs/\ag1 nm off g1 p1 ys/\(dd=.none\/∃k:Nat,dd=.int (k:Nat))/\PlX off v (ofD dd)/\o=o36 D ns s ae nm off g0 g1 p0 p1 (.l2 [xs.map frR,ys.map frR]) (.fz (ntT (ae.map List.length))) .und .und (.fz v) (.fz (ofD dd)) .und .und) ?_ λY hY=>?_
 rotate_left
 .refine⟨_,rfl,_,rfl,s,nm,off,g0,p0,rfl,d.z,d.hg0,QB d.ho d.hp0,λxs xb xc=>⟨_,rfl,_,rfl,s,nm,off,g1,p1,rfl,d.z,d.hg1,QB d.ho d.hp1,λys yb yc=>⟨up (by rw[ak];lia),comp_map (λds=>L2.T.lst (ds.map ldT)) (λds=>inT ds.length) ae (λds _ N M hN=>?_) ?_⟩⟩⟩
  .show N (.int (((ds.map ldT).length:Nat):Int));rwa[ak]
  rw[show ae.map (λds=>inT ds.length)=(ae.map List.length).map inT by rw[WS];rfl];refine⟨ns,19,rfl,by exact aL nl wp,by decide,_,rfl,_,ae.map List.length,p0,rfl,Z3 _ wp,⟨by rw[ak];exact aL (WG dl) m8,by rw[ak];exact d.hp0.len,λk c n ep en=>?_,λn hn=>?_⟩,λv dd i9 hx=>⟨rfl,hY _ ⟨xs,ys,v,dd,⟨xb,xc⟩,⟨yb,yc⟩,i9,hx off (afL d.ho),rfl⟩⟩⟩
  .rw[aq]at en;cases ed:ae[k]? with
   |none=>rw[ed]at en;cases en
   |some ds=>rw[ed]at en;cases en;exact d.hp0.ok k c ds ep ed
  .obtain⟨ds,hm,rfl⟩:=YV.mp hn;have:=d.hd.few ds hm;exact aL this wp
 rintro _ ⟨xs,ys,v,dd,hx,hy,i9,hv,rfl⟩;have ee:PyData.eqv dd dd=true:=by
  rcases i9 with rfl|⟨k,rfl⟩
  .rfl
  .show decide ((k:Int)=(k:Int))=true;exact Zs rfl
 have sh:SeqAt.shaped (.list [.str "plan",dd])=true:=by
  rcases i9 with rfl|⟨k,rfl⟩<;>exact Ld (by decide +kernel) rfl (aZ _)
 refine⟨_,rfl,s,nm,off,ntT g0,v,rfl,d.z.h,.inr ⟨g0,ofD dd,rfl,d.hg0,hv,.list [.str "plan",dd],.list [.str "plan",dd],rfl,rfl,sh,sh,?_⟩⟩;rw[Yr ee];have ml:((ae.map λds=>L2.T.lst (ds.map ldT)).length:Int)=(nm.length:Nat):=by rw[ak,dl,ln]
 refine swF rfl ⟨ns,20,rfl,by exact aL nl wp,by decide,?_⟩;have lx:(xs.map frR).length<=8:=by rw[ak,hx.1.len];exact aL (WG ln) m8
 refine⟨_,rfl,_,rfl,s,nm,off,g0,[v,plT p0],ns.getD 20 0%1000003,ZH (λz=>[hlT D s nm off,L2.T.int z,ntT g0,.lst [v,plT p0],.int (ns.getD 20 0%1000003)]) ml,d.z.h,d.hg0,d.l0,Z3 _ wp,?_⟩;refine⟨_,rfl,0,xs.map frR,rfl,rfl,Y3 lx wp,_,rfl,_,rfl,s,nm,off,g0,p0,rfl,d.z,d.hg0,QB d.ho d.hp0,λzs zb zc=>⟨(show 2<sizeLine by decide),(show 3<=sizeLine by decide),?_⟩⟩;show vH _ _ _ ([(xs,0),(ys,1),(zs,0)].map λp:List Rat×Nat=>L2.T.tup [xsT p.1,inT p.2]) (o36 D ns s ae nm off g0 g1 p0 p1 (.fz (.lst [.lst (xs.map frR++[frR 0]),xsT ys,xsT zs])) (.fz (ntT (ae.map List.length))) (.fz (.int (ns.getD 20 0%1000003))) (.fz (xsT xs)) (.fz v) (.fz (ofD dd)) .und .und);refine fL (λp:List Rat×Nat=>L2.T.tup [xsT p.1,inT p.2]) [(xs,0),(ys,1),(zs,0)] (λ_ o=>∃a b c d' e f x y,o=o36 D ns s ae nm off g0 g1 p0 p1 a b c d' e f x y) ⟨_,_,_,_,_,_,_,_,rfl⟩ ?_ ?_
 .rintro as ⟨us,w⟩ bs _ e ⟨a,b,c,d',e',f',x,y,rfl⟩;have hm:(us,w)∈[(xs,0),(ys,1),(zs,0)]:=by rw[e];exact aP _ (aO ..)
  simp only[YU,VY,or_false,Prod.mk.injEq]at hm;rcases hm with⟨rfl,rfl⟩|⟨rfl,rfl⟩|⟨rfl,rfl⟩
  .obtain⟨a1,a2,a3,a4,a5⟩:=ab3 d d.hp0 hx;exact⟨rfl,_,rfl,_,rfl,us,wsL ae,g0,p0,rfl,a1,a2,a3,a4,a5,_,_,_,_,_,_,_,_,rfl⟩
  .obtain⟨a1,a2,a3,a4,a5⟩:=ab3 d d.hp1 hy;exact⟨rfl,_,rfl,_,rfl,us,wsL ae,g1,p1,rfl,a1,a2,a3,a4,a5,_,_,_,_,_,_,_,_,rfl⟩
  .obtain⟨a1,a2,a3,a4,a5⟩:=ab3 d d.hp0 (xs:=us) ⟨zb,zc⟩;exact⟨rfl,_,rfl,_,rfl,us,wsL ae,g0,p0,rfl,a1,a2,a3,a4,a5,_,_,_,_,_,_,_,_,rfl⟩
 .rintro _ ⟨a,b,c,d',e',f',x,y,rfl⟩
  let dt:PyData:=.list [.list (g0.map inD),.list (g1.map inD),.list (p0.map dD),.list (p1.map dD)]
  have et:L2.T.lst [ntT g0,ntT g1,plT p0,plT p1]=ofD dt:=by
   show _=L2.T.lst [.lst (OD (g0.map inD)),.lst (OD (g1.map inD)),.lst (OD (p0.map dD)),.lst (OD (p1.map dD))];rw[<- qe jO.of,<- qe jO.of,<- qe j_.of,<- qe j_.of]
  have ed:PyData.eqv dt dt=true:=by
   have h1:=BZ jO g0;have h2:=BZ jO g1;have h3:=BZ j_ p0;have h4:=BZ j_ p1;show PyData.eqv (.list _) (.list _)=true;unfold PyData.eqv PyData.eqvAll PyData.eqvAll PyData.eqvAll PyData.eqvAll PyData.eqvAll;rw[h1,h2,h3,h4];rfl
  have es:SeqAt.shaped dt=true:=by
   have l:∀{α:Type}{g:α->PyData}(xs:List α),(∀x,PyData.canLay0 (g x)=true)->PyData.canLay0 (.list (xs.map g))=true:=λxs h=>by unfold PyData.canLay0;exact xY h xs
   have p:∀{α:Type}{g:α->PyData}(xs:List α),(∀x,PyData.depth (g x)<=60)->PyData.depth (.list (xs.map g))<=61:=λxs h=>by unfold PyData.depth;have:=Ai h xs;exact Nat.succ_le_succ this
   have a1:=l g0 jO.lay;have a2:=l g1 jO.lay;have a3:=l p0 j_.lay;have a4:=l p1 j_.lay;have b1:=p g0 jO.dep;have b2:=p g1 jO.dep;have b3:=p p0 j_.dep;have b4:=p p1 j_.dep;have h1:PyData.canLay0 dt=true:=by
    show PyData.canLay0 (.list _)=true;unfold PyData.canLay0 PyData.canLayAll0 PyData.canLayAll0 PyData.canLayAll0 PyData.canLayAll0 PyData.canLayAll0;rw[a1,a2,a3,a4];rfl
   have h2:PyData.depth dt<=64:=by
    show PyData.depth (.list _)<=64;unfold PyData.depth PyData.depthAll PyData.depthAll PyData.depthAll PyData.depthAll PyData.depthAll;lia
   unfold SeqAt.shaped;rw[h1,Zs h2];rfl
  refine⟨(show 4<=sizeLine by decide),dt,dt,et,et,es,es,?_⟩;rwa[ed]
end
def agM{K:Frag}{vs:Ε}{H:Hp}{Q:VK}{E:XK}(h:Yy K vs H Q E):spT K acw vs H Q E:=by
 obtain⟨a,ns,rfl,hs,hl,_,hQ⟩:=h;refine⟨[scT ns],λx=>x=.fz (.bl true),.cons (.scr hs (E_ ns)) .nil,⟨ns,rfl,hl,rfl⟩,?_⟩;rintro H' v _ rfl _ ⟨B,_,_,u,e,r⟩;cases e;cases r;exact hQ H'
def law_fn{l:PySem.W.OpenLaw}{w:World}{K:Frag}{mg:Str->Ψ}(T0:∃D,Txt K mg D)(base:Heap)(f:Addr)(fd:FuncData)(F:Fun K Xl Xl T5 f fd) :
  d9 l.prog w K mg base CX0 13 f fd R9 (Yy K):=by
 obtain⟨D,T⟩:=T0
 letI:Bs:=⟨l.prog,w,K,mg,base⟩
 exact(aiB T F).imp λ_ _ _ _ h=>agM h
end K36
end
open PySem PySem.W PyProof.Rows L2
set_option maxRecDepth 100000 in
set_option maxHeartbeats 0 in
theorem PySem.Challenge.cw_chancehall_k36_chances_of_a_plan_holds : PySem.Challenge.rw_chancehall_k36_chances_of_a_plan.Holds := by
 w_on
 refine holds_law H36.wsd λmf=>?_;refine holds_open (q:=H36.qv) (loose:=[]) (XP:=XL H36.qv []) (YP:=InK H36.KH) H36.left (InK.of H36.asK) InK.keeps H36.hX XL.keeps (by rfl) (by rfl) (by rfl) H36.hR (by rfl) mf (by decide +kernel) ⟨rfl,rfl,rfl,rfl,rfl,by decide +kernel⟩ ?hw ?hc
 (case hw=>w_witness2)
 k_fill
 refine L2.ako (l:=PySem.Challenge.rw_chancehall_k36_chances_of_a_plan) (k:=13) (x := "_law_script") rfl rfl ⟨rfl,by decide,by decide⟩ (λw h Y=>(show(H36.KH w.params).In h from Y)) ?F
 case F =>
  intro w mg fa h KX G f8;refine⟨K36.T5,?_,λbase f fd F=>K36.law_fn ?T base f fd F⟩
  .exact q_f
  case T =>
   refine⟨⟨31,99,118,439,460,479,498,515,600,135,136,422,429,457,476,495,512,557,564,585,597,96,115⟩,⟨q_c,q_c,q_c,q_c,q_c,q_c,q_c,q_c,q_c,q_c,q_c,by k_is,by k_is,q_g,q_t,q_t,q_4,q_m,q_n,q_n,q_n,q_n,q_n,q_n,q_M,q_4,q_m,q_n,q_n,q_n,q_n,q_n,q_n,q_M,q_4,q_m,q_n,q_n,q_n,q_n,q_n,q_n,q_M,q_4,q_m,q_n,q_n,q_n,q_n,q_n,q_n,q_M,q_4,q_m,q_n,q_n,q_n,q_n,q_n,q_n,q_M,q_4,q_m,q_m,q_m,q_n,q_n,q_n,q_n,q_n,q_n,q_E,q_S,q_5,by k_is,by k_is,q_n,by kit_is,by kit_is,q_E,q_S,q_5,by k_is,by k_is,q_n,by kit_is,by kit_is,q_b,q_B,q_h,q_h,q_h,q_B,q_h,q_h,q_h,q_h,q_h,q_h,q_h,q_h,q_h,q_z,q_z,q_z,q_z,q_z,q_z,q_z,q_z,q_z,q_z,q_z,q_z,q_z,q_z,q_z,q_z,q_f,q_f,q_f,q_f,q_f,q_f,q_f,q_f,q_f,q_f,q_f,q_f,q_f,q_f,q_f,q_f,q_f,q_f,q_f,q_f,q_f,q_f,q_f,q_f,q_f,q_f,q_f,q_f,q_f,q_f,q_f,q_f,q_f,q_f,q_f,q_f,q_f,q_f,q_f,q_f,q_f,q_f,q_f,q_f,q_f,q_f,q_f,q_f,q_f,q_f,q_f,q_f,q_f,q_f,q_f,q_f,q_f,q_f,q_f,q_f,q_f,q_f,q_f,q_f,q_f,q_f,q_f,q_f,q_f,q_f,q_f,q_f,q_f,q_f,q_f⟩⟩
#print axioms PySem.Challenge.cw_chancehall_k36_chances_of_a_plan_holds
