import PyProof.Rows.All
import Wide.All
import OpenK.AllK
import Wide.FinOn
import Lean
import PyProof.EqAt
import PyProof.EqKinds
import PyProof.TupleCall
import PyProof.EqLayable
import KE.KIntText
import PyProof.EnumMake
import PyProof.EnumStmt
import PyProof.EnumFor
import PyProof.Rows.EnumRows
import PyProof.ExcInit
import PyProof.ExcClass2
import PyProof.InstStoreFacts
import KE.KRevIter
import PySem.Challenge.RW_chancehall_k23_visits
def aj := @List.getElem?_eq_getElem
def ak := @List.length_map
def ao := @List.getElem?_eq_some_iff
def aq := @List.getElem?_map
def au := @List.getD_eq_getElem?_getD
def aA := @List.length_append
def aC := @List.mem_of_getElem?
def aD := @List.getElem?_append_right
def aF := @List.getElem?_append_left
def aG := @Nat.le_refl
def aH := @PySem.Heap.get?_push_of_some
def aJ := @List.mem_cons_of_mem
def aK := @PySem.Heap.lt_size
def aL := @Nat.le_trans
def aM := @List.getElem?_eq_none
def aN := @List.length_replicate
def aO := @List.mem_cons_self
def aP := @List.mem_append_right
def aQ := @Nat.ne_of_lt
def aR := @Nat.lt_of_lt_of_le
def aU := @List.getElem_mem
def aV := @List.getElem?_of_mem
def aW := @PySem.Heap.get?_push_size
def aX := @List.size_toArray
def aY := @List.length_take
def aZ := @Nat.zero_le
def bf := @List.map_append
def bh := @Bool.false_ne_true
open PySem.W (Frag instObj methodObj hideAll hideAll_get of_hideAll lookIn plainGet hasDictIn findIn handedIn plainGet_of findObj_own isFn plainOver takerIn set_plain looks_clsIn makesIn typeIn emptyDict looks_findIn keepIn specialIn mroIn kitOne kia_one kitx_list kitx_tuple callWith_K methodCall_KW codeIn nsIn mg_of excIn isNs_of_in clsIn looks_mroIn readsIn findCls method_cls cls_value notCls nsOkIn)
section
open PySem PySem.Spec PyProof.Rows
abbrev Γ:=List (Addr×Obj)
abbrev Δ:=List Value
abbrev Θ:=List Str
abbrev Φ:=List Addr
abbrev Ψ:=Option Value
abbrev Ω:=Option Addr
abbrev Ξ:=Int×Int
abbrev Β:=Value->Shared->Prop
def Zs:=@decide_eq_true
def Zp:=@decide_eq_false
def ZZ:=@if_neg
def ZY:=@if_pos
def ZU:=@wpAny_bind
def ZT:=@wpAny_pure
def ZH:=@congrArg
def Z3:=@Int.emod_nonneg
def YY:=@Int.emod_lt_of_pos
def YV:=@List.mem_map
def YU:=@List.mem_cons
def YR:=@List.mem_singleton
def Y1:=@List.mem_append
def Y2:=@Nat.le_of_lt
def Y3:=@Nat.lt_of_le_of_lt
def Xs:=@Nat.le_succ
def XZ:=@Int.mul_pos
def XY:=@Int.le_of_lt
def XX:=@Nat.lt_of_le_of_ne
def XW:=@Bool.false_eq_true
def XV:=@Rat.intCast_mul
def XU:=@Nat.pow_le_pow_right
def XT:=@Int.natAbs_natCast
def XG:=@List.getElem?_replicate
def X0:=@Nat.lt_succ_self
def X1:=@Nat.le_add_right
def X2:=@Nat.lt_irrefl
def X9:=@Int.natCast_nonneg
def Wp:=@List.append_assoc
def WZ:=@Nat.not_lt_zero
def WV:=@Nat.lt_add_right
def WU:=@Int.ne_of_gt
def WS:=@List.map_map
def WP:=@PySem.boot_len
def WJ:=@List.length_range
def WG:=@Nat.le_of_eq
def WH:=@List.length_set
def VZ:=@List.not_mem_nil
def VY:=@List.getElem?_set_ne
def VX:=@Nat.mul_le_mul
def VW:=@Nat.ne_of_gt
def VV:=@List.length_zip
def VU:=@Int.natAbs_mul
def VT:=@List.getElem?_set_self
def VS:=@Nat.le_of_not_lt
def VQ:=@List.getElem?_range
def Up:=@Nat.min_self
def UZ:=@List.getElem_map
def UY:=@Nat.le_of_dvd
def UX:=@List.of_mem_zip
def UV:=@Nat.le_of_lt_succ
def UU:=@List.map_congr_left
def UT:=@Rat.le_refl
def US:=@List.length_drop
def UR:=@Nat.not_lt_of_le
def UQ:=@Nat.pow_add
def UP:=@Nat.one_pos
def UK:=@Nat.succ_pos
def UH:=@Int.one_mul
def U1:=@Nat.one_dvd
def U2:=@Nat.le_of_ble_eq_true
def Tu:=@Int.mul_one
def Ts:=@Nat.lt_trans
def Tk:=@Nat.add_sub_cancel_left
def Th:=@List.drop_eq_nil_of_le
def TZ:=@List.length_zipWith
def TW:=@Rat.divInt_eq_div
def TU:=@List.ext_getElem
def TR:=@List.mem_append_left
def TK:=@Int.lt_of_not_ge
def TH:=@Nat.mul_comm
def JY:=@Bool.and_eq_true
def JU:=@Nat.sub_self
def JS:=@Int.gcd_dvd_right
def JP:=@Int.natCast_mul
def JJ:=@Rat.divInt_eq_divInt_iff
def Qr:=@Rat.divInt_add_divInt
def QY:=@Rat.divInt_mul_divInt
def QU:=@List.getElem_range
def QR:=@Rat.le_trans
def QQ:=@Rat.add_zero
def QP:=@Nat.mul_pos
def Q1:=@List.drop_eq_getElem_cons
def Q2:=@Nat.zero_add
def Q3:=@Int.zero_add
def Q4:=@Rat.intCast_zero
def Zzz:=@Rat.mul_comm
def Zzy:=@Rat.zero_add
def Zzx:=@Int.zero_mul
def Zzw:=@Int.mul_ediv_cancel_left
def Zzv:=@Rat.zero_divInt
def Zzu:=@List.map_set
def Zzt:=@Rat.zero_mul
def Zzs:=@Rat.mul_le_mul_of_nonneg_left
def Zzr:=@Nat.mul_le_mul_left
def Zzq:=@Rat.divInt_nonneg
def Zyz:=@Bool.eq_iff_iff
def Zyy:=@List.drop_zero
def Zyx:=@List.take_of_length_le
def Zyw:=@Int.fdiv_eq_ediv_of_nonneg
def Zyv:=@List.find?_cons
def Zyu:=@List.set_eq_of_length_le
def Zyt:=@List.getElem?_zipWith
def Zys:=@List.nodup_cons
def Zyr:=@Int.gcd_pos_of_ne_zero_right
def Zyq:=@Int.ediv_pos_of_pos_of_dvd
def Zxz:=@Int.mul_assoc
def Zxy:=@Nat.le_mul_of_pos_left
def Zxx:=@Nat.dvd_trans
def Zxw:=@List.map_zipWith
def Zxv:=@List.getElem_of_mem
def Zxu:=@Int.eq_ofNat_of_zero_le
def Zxt:=@List.all_eq_true
def Zxs:=@List.filterMap_cons
def Zxr:=@List.lookup_append
def Zxq:=@List.length_zipIdx
def Zwz:=@List.filter_cons_of_neg
def Zwy:=@Nat.pow_le_pow_left
def Zwx:=@Int.pos_of_mul_pos_right
def Zww:=@Int.fdiv_eq_ediv_of_dvd
def Zwv:=@Int.mul_pos_of_neg_of_neg
def Zwu:=@Int.toNat_of_nonneg
def Zwt:=@Nat.one_lt_two_pow
def Zws:=@List.mem_of_mem_take
end
set_option Elab.async false
set_option linter.all false
set_option maxRecDepth 100000
set_option maxHeartbeats 4000000
namespace L2.Once
noncomputable section
open PySem PySem.W
def z:Pos:=⟨0,0,0,0⟩
def tE:Obj:=⟨.type "tuple",none,.seq ⟨[]⟩ 0,⟨[]⟩⟩
def fE:Obj:=⟨.none,none,.fields ⟨[]⟩,⟨[]⟩⟩
def tN(t:Nat)(l:Θ):Obj:=⟨.type "tuple",none,.seq ⟨(l.zipIdx t).map λx=>.str x.1 x.2⟩ 0,⟨[]⟩⟩
def cO(n q:Str)(t:Nat)(l a f:Int)(r u:Nat):Obj:=⟨.type "code",none,.fields ⟨[.str n t,.str q (t+1),.str "/claim/cut.py" (t+2),.int l 0,.int a 0,.int 0 0,.int 0 0,.int f 0,.ref r,.bool true,.int 181 0,.ref (r+1),.none,.ref (r+2),.ref (r+3),.ref (r+4),.int u 0,.int l 0,.str "/claim/cut.py" (u+1)]⟩,⟨[]⟩⟩
def o11:Obj:={ cls:=.type "tuple",data:=.seq #[] }
def o12:Obj:={ cls:=.none,data:=.fields #[] }
def o13:Obj:={ cls:=.type "code",data:=.fields #[.str "<module>" 182,.str "<module>" 183,.str "/claim/cut.py" 184,.int 1 0,.int 0 0,.int 0 0,.int 0 0,.int 0 0,.ref 11,.bool false,.int 181 0,.ref 12,.none,.none,.none,.none,.int 185 0,.int 1 0,.str "/claim/cut.py" 186] }
def o14:Obj:={ cls:=.type "frame",slots:=#[some (.ref 13),some (.ref 3),some (.ref 3),none,some (.str "__main__" 164),none,some (.ref 0)] }
def cP(n q:Str)(t:Nat)(l a f:Int)(r u:Nat):Obj:=⟨.type "code",none,.fields ⟨[.str n t,.str q (t+1),.str "/claim/cut.py" (t+2),.int l 0,.int a 0,.int 0 0,.int 0 0,.int f 0,.ref r,.bool true,.int 181 0,.ref (r+1),.none,.none,.none,.ref (r+2),.int u 0,.int l 0,.str "/claim/cut.py" (u+1)]⟩,⟨[]⟩⟩
def dE(P:Params)(x:Str)(t:Nat)(v:Value):DictEntry:=⟨PyData.keyHash P x,.str x t,v⟩
abbrev lf(o:Obj):BT:=.node o .nil .nil
def tr(P:Params):BT:=.node (boot_o_0 P)
 (.node (boot_o_1 P) (.node (boot_o_3 P) (lf (boot_o_7 P)) (lf o11)) (.node (boot_o_5 P) (lf (boot_o_9 P)) (lf o13)))
 (.node (boot_o_2 P) (.node (boot_o_4 P) (lf (boot_o_8 P)) (lf o12)) (.node (boot_o_6 P) (lf (boot_o_10 P)) (lf o14)))
def S0(w:World)(os:OsState):Shared:=⟨boot_heap w.params,Array.mk [],boot_drawn,boot_toks,os⟩
def Sa(w:World)(os:OsState):Shared:=⟨⟨Array.mk [boot_o_0 w.params,boot_o_1 w.params,boot_o_2 w.params,boot_o_3 w.params,boot_o_4 w.params,boot_o_5 w.params,boot_o_6 w.params,boot_o_7 w.params,boot_o_8 w.params,boot_o_9 w.params,boot_o_10 w.params,o11,o12,o13,o14],{}⟩,Array.mk [],{},187,os⟩
def Sb(w:World)(os:OsState):SharedT:=⟨tr w.params,15,{},⟨[]⟩,{},187,os⟩
def env(p:Program):Env:={ scope:=p.main.scope,locals:=mainNs,globals:=mainNs,cells:=[],code:=.ref 13,frame:=some 14 }
def cE(p:Program):Code:=.body (behindTheImports p) (env p)
abbrev ann:Ψ:=some (.ref 6)
abbrev B:List Frame:=[topFrame z]
def size(w:World):((boot_heap w.params).isNs mainGlobals&&(Array.mk [] : Array GenState).size==0,(boot_heap w.params).objs.size,(boot_heap w.params).nsMap mainGlobals "__annotations__")=(true,11,ann):=by
 rw[Fast.te8920871248978507458];kernel_rfl
def nZ(p:Program)(w:World)(M:Nat)(S:SharedT)(l:List Stmt)(q:Pos)(G:Shared->Prop):Prop:=∃s,topRun treeTable p w 11 ann M S.abs (restOf l (env p) (cE p) q B)=some s/\G s
def nZ.cut{p:Program}{w:World}{n M:Nat}{S S':SharedT}{l1 l2:List Stmt}{q q':Pos}{G:Shared->Prop}(h:segRunT treeTable p w 11 ann 1 n S (piecesOf l1 (env p) (cE p) q B)=some (.next,S',cE p,q'))(k:nZ p w M S' l2 q' G):nZ p w (n+M) S (l1++l2) q G :=
 let⟨s,a,b⟩:=k
 ⟨s,piece_app (segRun_of h) a,b⟩
def nZ.cutAt{p:Program}{w:World}{n m M:Nat}{S S':SharedT}{l:List Stmt}{q q':Pos}{G:Shared->Prop}(h:segRunT treeTable p w 11 ann 1 n S (piecesOf (l.take m) (env p) (cE p) q B)=some (.next,S',cE p,q'))(k:nZ p w M S' (l.drop m) q' G):nZ p w (n+M) S l q G:=by
 have:=nZ.cut h k;rwa[List.take_append_drop]at this
def Good{α:Type}(p q:Program)(loose:Θ)(Xt:Shared->Bool)(Yf:Shared->α)(Ya:World->α)(g0:Bool)(w:World)(s:Shared):Prop :=
 (staticsOk (importedModules p.main.body) (boot_heap w.params) s.heap&&namesBound p s.heap&&gensDone s&&laidKept (boot_heap w.params) s.heap,openSeen q loose (importedModules p.main.body) Xt g0 s,Yf s)=(true,openGood q loose,Ya w)
def nZ.last{p q:Program}{loose:Θ}{Xt:Shared->Bool}{α:Type}{Yf:Shared->α}{Ya:World->α}{g0:Bool}{w:World}{n k:Nat}{S:SharedT}{l:List Stmt}{q0 e:Pos}
 (big:(segRunT treeTable p w 11 ann 1 n S (piecesOf l (env p) (cE p) q0 B)).map (λr =>
    (r.1,r.2.2.1,r.2.2.2,(topRun treeTable p w 11 ann k r.2.1.abs ⟨doneF .next,cE p,e,B⟩).map λs =>
     (staticsOk (importedModules p.main.body) (boot_heap w.params) s.heap&&namesBound p s.heap&&gensDone s&&laidKept (boot_heap w.params) s.heap,openSeen q loose (importedModules p.main.body) Xt g0 s,Yf s))) =
   some (.next,cE p,e,some (true,openGood q loose,Ya w))):nZ p w (n+k) S l q0 (Good p q loose Xt Yf Ya g0 w):=by
 obtain⟨⟨f,sT,c,ps⟩,r1,r2⟩:=Option.map_eq_some_iff.mp big;obtain⟨rfl,rfl,rfl,r3⟩ : f=.next/\c=cE p/\ps=e/\_:=by simpa only[Prod.mk.injEq]using r2
 obtain⟨s,t1,t2⟩:=Option.map_eq_some_iff.mp r3;have q1:=piece_app (rest:=[]) (segRun_of r1) (piece_nil t1);rw[List.append_nil]at q1;exact⟨s,q1,t2⟩
def YB{p q:Program}{loose:Θ}{Xt:Shared->Bool}{α:Type}{Yf:Shared->α}{Ya:World->α}{N:Nat}{g0:Bool}{a b M:Nat}
 (jS:∀w:World,(fencedOpening treeTable p w N).map (λs=>(s.heap,s.gens,s.drawn,s.toks))=some (boot_heap w.params,Array.mk [],boot_drawn,boot_toks))
 (pre:∀w:World,(λos=>topGo treeTable p w 11 ann a (S0 w os) (topStub p))=λos=>some (Sa w os,⟨denote treeTable (cE p),cE p,z,B⟩))
 (block:∀w:World,(λos=>segRun treeTable p w 11 ann 1 b (Sa w os) (blockOf (behindTheImports p) (env p) (cE p) z B))=λos=>some (.next,(Sb w os).abs,cE p,z))
 (iP:∀(w:World)(os:OsState),nZ p w M (Sb w os) (behindTheImports p) z (Good p q loose Xt Yf Ya g0 w))
 (le:Nat.ble (a+(b+M)) N=true):LeftO p q loose Xt Yf Ya N g0:=λw=>by
 obtain⟨⟨h,gs,d,ks,os⟩,e1,e2⟩:=Option.map_eq_some_iff.mp (jS w);obtain⟨rfl,rfl,rfl,rfl⟩ : h=boot_heap w.params/\gs=Array.mk []/\d=boot_drawn/\ks=boot_toks:=by simpa using e2
 obtain⟨z1,z2,z3⟩ : _/\_/\_:=by simpa only[Prod.mk.injEq]using size w
 obtain⟨s,q1,t2⟩:=iP w os;obtain⟨l1,l2,l3⟩ : _/\_/\_:=by simpa only[Good,Prod.mk.injEq]using t2
 have q2:=go_top (congrFun (pre w) os) (piece_block (congrFun (block w) os) q1);have q3:=topRun_mono (N-(a+(b+M))) _ _ _ _ q2;rw[show a+(b+M)+(N-(a+(b+M)))=N by have:=U2 le;omega]at q3;have t:topFrom treeTable p w N ⟨boot_heap w.params,Array.mk [],boot_drawn,boot_toks,os⟩=some s:=by
  unfold topFrom;dsimp only;rw[z1,z2,z3,show topRun treeTable p w 11 ann N ⟨boot_heap w.params,Array.mk [],boot_drawn,boot_toks,os⟩ (topStub p)=some s from q3];show(match staticsOk (importedModules p.main.body) (boot_heap w.params) s.heap&&namesBound p s.heap&&gensDone s&&laidKept (boot_heap w.params) s.heap with|true=>_|false=>_)=_;rw[l1]
 unfold openEnds;rw[e1];show(topFrom treeTable p w N _).map _=_;rw[t];exact ZH some (Prod.ext l2 l3)
end
end L2.Once
namespace L2
open PySem
def jG(s:Stmt):Arguments:=match s with
 |.FunctionDef _ a _ _ _ _ _ _ _ _=>a
 |_=>{ posonlyargs:=[],args:=[],vararg:=none,kwonlyargs:=[],kw_defaults:=[],kwarg:=none,defaults:=[] }
def eU(s:Stmt):List Stmt:=match s with
 |.FunctionDef _ _ b _ _ _ _ _ _ _=>b
 |_=>[]
def bF(s:Stmt):Scope:=match s with
 |.FunctionDef _ _ _ _ _ _ sc _ _ _=>sc
 |_=>{ kind:=.function,names:=[],isGenerator:=false,isCoroutine:=false }
end L2
namespace K23
open PySem L2
def top(i:Nat):Stmt:=PySem.Challenge.pw_chancehall_k23_visits.main.body.getD i (.Pass ⟨0,0,0,0⟩)
def gA(i j:Nat):Stmt:=match top i with|.ClassDef _ _ _ b _ _ _ _ _ _ _=>b.getD j (.Pass ⟨0,0,0,0⟩)|_=>.Pass ⟨0,0,0,0⟩
abbrev fG:Θ:=["thing"]
abbrev U6:Θ:=fG
abbrev cM:Θ:=["one","other"]
abbrev Ks:Θ:=cM.append ["left","right","rest"]
abbrev m_:Θ:=["top","bottom"]
abbrev N7:Θ:=m_.append ["common"]
abbrev jt:Θ:=["thing"]
abbrev zm:Θ:=jt.append ["top","bottom"]
abbrev Ar:Θ:=["one","other"]
abbrev afI:Θ:=Ar
abbrev pq:Θ:=["one","other"]
abbrev adt:Θ:=pq
abbrev uP:Θ:=["one","other"]
abbrev adQ:Θ:=uP
abbrev Av:Θ:=["one","other"]
abbrev agy:Θ:=Av
abbrev rH:Θ:=["one","other"]
abbrev ac0:Θ:=rH
abbrev qY:Θ:=["fractions"]
abbrev Wc:Θ:=qY.append ["bottom","one"]
abbrev v8:Θ:=["fractions"]
abbrev Ob:Θ:=v8.append ["leveled"]
abbrev oG:Θ:=["thing","many"]
abbrev U3:Θ:=oG
abbrev fD:Θ:=["hall","plan"]
abbrev su:Θ:=fD.append ["room","thing"]
abbrev oK:Θ:=["tops","bottom"]
abbrev Rn:Θ:=oK.append ["common","top"]
abbrev lQ:Θ:=["row","often"]
abbrev xX:Θ:=lQ
abbrev mZ:Θ:=["row","other","often"]
abbrev zq:Θ:=mZ.append ["bottom","common","own","added","tops"]
abbrev lH:Θ:=["leveled","step"]
abbrev vU:Θ:=lH.append ["row"]
abbrev jF:Θ:=["row","column"]
abbrev xH:Θ:=jF
abbrev iz:Θ:=["leveled"]
abbrev jw:Θ:=iz
abbrev jX:Θ:=["leveled","place","column"]
abbrev Br:Θ:=jX.append ["row"]
abbrev rM:Θ:=["leveled","steps","step"]
abbrev MF:Θ:=rM
abbrev lG:Θ:=["leveled","steps","place","found","column"]
abbrev Eh:Θ:=lG.append ["first"]
abbrev iy:Θ:=["leveled","steps","place","column"]
abbrev wu:Θ:=iy.append ["row","often"]
abbrev o7:Θ:=["rows","wide"]
abbrev Dw:Θ:=o7.append ["leveled","steps","place","column","found"]
abbrev nq:Θ:=["rows"]
abbrev Tt:Θ:=nq
abbrev je:Θ:=["rows","rights"]
abbrev qz:Θ:=je
abbrev lY:Θ:=["end","wide"]
abbrev uN:Θ:=lY.append ["begins","row","columns"]
abbrev o8:Θ:=["end","begins","wide"]
abbrev CV:Θ:=o8.append ["row"]
abbrev lC:Θ:=["end","begins","wide"]
abbrev Eb:Θ:=lC.append ["answer","row","column"]
abbrev jx:Θ:=["many"]
abbrev jR:Θ:=jx
abbrev gP:Θ:=["rows","rights"]
abbrev yL:Θ:=gP.append ["wide","end","begins"]
abbrev fY:Θ:=["hall","plan"]
abbrev oY:Θ:=fY
abbrev jE:Θ:=["share","chosen"]
abbrev Ed:Θ:=jE.append ["rows","room","offer","behind","chance"]
abbrev oJ:Θ:=["rows"]
abbrev xq:Θ:=oJ
abbrev fK:Θ:=["hall","plan","start"]
abbrev jM:Θ:=fK.append ["begin"]
abbrev kW:Θ:=["thing"]
abbrev DK:Θ:=kW
abbrev iC:Θ:=["name","pay"]
abbrev sI:Θ:=iC
abbrev dZ:Θ:=["room"]
abbrev Bt:Θ:=dZ
abbrev fX:Θ:=["chance"]
abbrev Gp:Θ:=fX
abbrev ji:Θ:=["pairs"]
abbrev qm:Θ:=ji.append ["room","chance"]
abbrev jm:Θ:=["pairs"]
abbrev yX:Θ:=jm.append ["chances","room","chance"]
abbrev iZ:Θ:=["share"]
abbrev JK:Θ:=iZ
abbrev jU:Θ:=["rooms"]
abbrev tW:Θ:=jU.append ["numbers","room","name"]
abbrev gM:Θ:=["door","numbers"]
abbrev ur:Θ:=gM.append ["numbered","name","chance"]
abbrev lX:Θ:=["doors","numbers"]
abbrev DW:Θ:=lX.append ["taken","told","door"]
abbrev yr:Θ:=["_law_script","_law_k"]
abbrev Uy:Θ:=yr
abbrev dY:Θ:=["_law_cell_here","_law_many"]
abbrev Sv:Θ:=dY.append ["_law_found","_law_number","_law_digits","_law_k"]
abbrev xJ:Θ:=["_law_one","_law_other"]
abbrev aez:Θ:=xJ.append ["_law_low","_law_high"]
abbrev mq:Θ:=["_law_top","_law_bottom"]
abbrev QX:Θ:=mq.append ["_law_common"]
abbrev lM:Θ:=["_law_found"]
abbrev wQ:Θ:=lM.append ["_law_number"]
abbrev jN:Θ:=["_law_found","_law_many"]
abbrev sy:Θ:=jN
abbrev Cd:Θ:=["_law_one","_law_other"]
abbrev afz:Θ:=Cd
abbrev vY:Θ:=["_law_cell_here","_law_many"]
abbrev sG:Θ:=vY.append ["_law_letters","_law_xs","_law_base","_law_at","_law_step"]
abbrev vM:Θ:=["_law_cell_here"]
abbrev Vr:Θ:=vM.append ["_law_xs","_law_bottom"]
abbrev Iv:Θ:=["_law_cell_here","_law_x","_law_y"]
abbrev aey:Θ:=Iv
abbrev Bh:Θ:=["_law_cell_here","_law_many"]
abbrev rR:Θ:=Bh.append ["_law_xs","_law_rooms","_law_sort","_law_pairs","_law_bottom","_law_part","_law_weights"]
abbrev xu:Θ:=["_law_script","_law_at","_law_many","_law_most"]
abbrev O8:Θ:=xu.append ["_law_rooms","_law_first","_law_cells","_law_cell_here","_law_room","_law_door_here"]
abbrev wR:Θ:=["_law_title","_law_door_here","_law_names_here"]
abbrev BL:Θ:=wR.append ["_law_told","_law_sort","_law_pay_here","_law_pairs"]
abbrev Bu:Θ:=["_law_cell_here","_law_share_here","_law_rooms"]
abbrev Ul:Θ:=Bu.append ["_law_names_here","_law_found","_law_k","_law_titles"]
abbrev rF:Θ:=["_law_cell_here","_law_rooms"]
abbrev RZ:Θ:=rF.append ["_law_xs","_law_found","_law_k"]
abbrev BR:Θ:=["_law_cell_here"]
abbrev Tr:Θ:=BR.append ["_law_xs"]
abbrev Cm:Θ:=["_law_found","_law_rooms","_law_plan","_law_room"]
abbrev aaW:Θ:=Cm.append ["_law_top","_law_bottom","_law_k","_law_other","_law_chance","_law_part"]
abbrev uO:Θ:=["_law_found","_law_share_here","_law_rooms","_law_plan","_law_start"]
abbrev acg:Θ:=uO.append ["_law_room","_law_bottom","_law_top"]
abbrev Jg:Θ:=["_law_cell_here","_law_many"]
abbrev aiE:Θ:=Jg
abbrev rA:Θ:=["_law_cell_here","_law_plan","_law_rooms"]
abbrev YQ:Θ:=rA.append ["_law_xs","_law_at","_law_later","_law_found","_law_some"]
abbrev o_:Θ:=["_law_hall_here","_law_plan","_law_start"]
abbrev Kv:Θ:=o_.append ["e"]
abbrev lA:Θ:=["_law_hall_here","_law_plan","_law_rooms","_law_start","_law_cell_here"]
abbrev En:Θ:=lA.append ["_law_xs","_law_odd_here","_law_word","_law_room","_law_at","_law_spoilt_here"]
abbrev Ol:Θ:=["_law_script"]
abbrev aki:Θ:=Ol.append ["_law_share_here","_law_many","_law_rooms","_law_hall_here","_law_plan","_law_xs","_law_starts","_law_handed","_law_other","_law_held","_law_again","_law_found","_law_start","_law_own"]
abbrev jD:Θ:=["self","name","pay"]
abbrev vg:Θ:=jD
abbrev lB:Θ:=["self"]
abbrev Sd:Θ:=lB
abbrev Aa:Θ:=["self","room"]
abbrev dH:Θ:=Aa
abbrev lW:Θ:=["self","name","pay","room"]
abbrev vR:Θ:=lW
abbrev gB:Θ:=["self","name","pay","pairs"]
abbrev tR:Θ:=gB
abbrev lR:Θ:=["self","name","pay","chance","room","other"]
abbrev DX:Θ:=lR
abbrev lD:Θ:=["self","name","pay","rooms"]
abbrev vG:Θ:=lD
abbrev lU:Θ:=["self","share","rooms"]
abbrev wW:Θ:=lU
abbrev dJ:Θ:=["self"]
abbrev Q9:Θ:=dJ
abbrev Ke:Θ:=["self","name"]
abbrev CG:Θ:=Ke
abbrev cT:Θ:=["self","room"]
abbrev Bp:Θ:=cT
abbrev Fb:Θ:=["self","room","name"]
abbrev uR:Θ:=Fb
abbrev d_:Θ:=["self","room"]
abbrev qT:Θ:=d_
abbrev jr:Θ:=["self","room"]
abbrev J_:Θ:=jr
abbrev gK:Θ:=["self","room"]
abbrev Jy:Θ:=gK
end K23
namespace H23
open PySem PySem.W L2 L2.Once K23
abbrev p:Program:=PySem.Challenge.pw_chancehall_k23_visits
noncomputable section
def dR(P:Params)(x:Str)(t m:Nat):DictEntry:=dE P x t (.ref m)
def wD(l:List DictEntry)(n:Nat):Obj:=⟨.type "dict",none,.dict ⟨l⟩ n,⟨[]⟩⟩
def i3(a b:Nat)(c:Nat)(l:Δ):Δ:=.int a 0::.int b 0::.ref c::l
def nd(o:Obj)(l r:BT):BT:=.node o l r
def n1(o x:Obj):BT:=.node o (lf x) .nil
def wA:Obj:=⟨.type "builtin_function_or_method",none,.fields ⟨[.builtin "type.__prepare__",.type "type"]⟩,⟨[]⟩⟩
def wB(n:Nat):Obj:=⟨.type "builtin_function_or_method",none,.fields ⟨[.builtin "object.__init_subclass__",.ref n]⟩,⟨[]⟩⟩
def wC(n:Str)(t l r u:Nat):Obj:=⟨.type "code",none,.fields ⟨[.str n t,.str n (t+1),.str "/claim/cut.py" (t+2),.int l 0,.int 0 0,.int 0 0,.int 0 0,.int 0 0,.ref r,.bool false,.int 181 0,.ref (r+1),.none,.none,.none,.none,.int u 0,.int l 0,.str "/claim/cut.py" (u+1)]⟩,⟨[]⟩⟩
def wF(c d:Nat)(n:Str)(t:Nat):Obj:=⟨.type "frame",none,.plain,⟨[some (.ref c),some (.ref 3),some (.ref d),none,some (.str n t),none,some (.ref 0)]⟩⟩
def wG(t n:Nat):Obj:=⟨.type "getset_descriptor",none,.fields ⟨[.str "__weakref__" t,.ref n,.builtin "ExceptionGroup.__weakref__",.none]⟩,⟨[]⟩⟩
def wK(n:Str)(b m:Δ)(d:Nat)(s:Δ)(o:Ψ)(t u:Nat)(x:String):Obj:=⟨.type "type",none,.cls ⟨n,b,m,d,n,true,[],s,false,none,false⟩,⟨[o,none,some (.str n t),some (.str n u),some (.builtin x),some (.bool true)]⟩⟩
def wS(n:Nat):Obj:=⟨.type "super",none,.fields ⟨[.ref n,.ref n,.ref n]⟩,⟨[]⟩⟩
def wT(n:Nat):Obj:=⟨.type "tuple",none,.seq ⟨[.ref n]⟩ 0,⟨[]⟩⟩
def fO(n q:Str)(s:Stmt)(m:Value)(c:Nat):Obj:=⟨.type "function",none,.func (fnOf n q (jG s) (eU s) (bF s) .none .none .none m none (.ref c) .none),⟨[]⟩⟩
def fT(n q:Str)(s:Stmt):Obj:=⟨.none,none,.func { fnOf n q (jG s) (eU s) (bF s) .none .none .none .none none .none .none with globals:=0,builtins:=0 },⟨[]⟩⟩
def fV(n:Str)(k:Nat)(m:Value)(c:Nat):Obj:=fO n n (top k) m c
def fU(n:Str)(k:Nat):Obj:=fT n n (top k)
def cU(n:Str)(t:Nat)(l a f:Int)(r u:Nat):Obj:=cO n n t l a f r u
def cV(n:Str)(t:Nat)(l a f:Int)(r u:Nat):Obj:=cP n n t l a f r u
def dM(P:Params)(l:List (String×Nat×Nat)):List DictEntry:=l.map λx=>dR P (Str.ofString x.1) x.2.1 x.2.2
def dC(P:Params)(a:Nat)(m:Value)(n:Str)(l:Int)(r:List DictEntry):List DictEntry:=dE P "__module__" a m::dE P "__qualname__" (a+2) (.str n (a+1))::dE P "__firstlineno__" (a+4) (.int l (a+3))::r
def dF(P:Params)(a:Nat)(m:Value)(l:Int)(r:List DictEntry):List DictEntry:=dE P "__module__" a m::dE P "__firstlineno__" (a+4) (.int l (a+3))::r
def wX(n:Str)(c d o t u:Nat):Obj:=wK n [.ref 31] [.ref c,.ref 31,.type "ValueError",.type "Exception",.type "BaseException",.type "object"] d [] (some (.ref o)) t u "ValueError.__new__"
def mo0:Value:=.str "__main__" 164
def mo1:Value:=.str "chancehall.errors" 194
def mo2:Value:=.str "chancehall.wholes" 328
def mo3:Value:=.str "chancehall.ratios" 348
def mo4:Value:=.str "chancehall.levels" 414
def mo5:Value:=.str "chancehall.plans" 430
def mo6:Value:=.str "chancehall.papers" 450
def mo7:Value:=.str "chancehall.solving" 542
def mo8:Value:=.str "chancehall.worths" 602
def mo9:Value:=.str "chancehall.words" 635
def pQ:Value:=.str "chancehall.doors" 645
def Dr:Value:=.str "chancehall.halls" 832
def n6:Value:=.str "law_chancehall_k23_visits" 947
def amL(P:Params):Obj:=wD (dE P "__name__" 165 n6::dE P "__doc__" 166 .none::dE P "__package__" 167 .none::dE P "__loader__" 168 (.builtin "__main__.__loader__#opaque")::dE P "__spec__" 169 .none::dR P "__annotations__" 170 6::dR P "__builtins__" 171 4::dE P "__file__" 173 (.str "/claim/cut.py" 172)::dE P "__cached__" 174 .none::dM P [("_wall",193,21),("HallError",213,31),("NoNumber",229,44),("NoName",245,56),("NoChance",261,68),("NoShare",277,80),("NoRoom",302,99),("NoPlan",327,118),("is_whole",336,127),("divisor",347,134),("NOUGHT",352,135),("ONE",355,136),("ratio",364,143),("is_ratio",373,150),("plus",381,157),("minus",389,164),("times",397,171),("over",405,178),("under",413,185),("level",421,190),("total",429,197),("fits",439,204),("check_plan",449,211),("lowest",457,216),("row_times",463,221),("row_plus",469,226),("take_step",478,233),("number_at",486,240),("fractions_of",492,245),("first_from",502,252),("go_on",511,259),("begin_row",523,266),("clear_column",535,273),("reduced",541,278),("width_of",550,285),("with_rights",556,290),("begins_of",562,295),("odd_row",572,302),("answer_of",584,309),("single_rows",590,314),("only_answer",601,321),("chosen_doors",609,326),("left_rows",622,333),("turned",628,338),("visits_from",634,343)]++dE P "LONGEST_WORD" 638 (.int 8 637)::dM P [("is_word",644,348),("check_head",654,355),("check_room_name",661,362),("check_chance",668,369),("check_pairs",674,374),("joined_ways",680,379),("Door",727,410),("Sure",754,431),("Mixed",781,450),("Toss",809,469),("Even",831,486),("check_share",840,495),("numbers_of",850,502),("numbered_ways",861,509),("offers_of",872,516),("Hall",946,571),("_law_cell",956,582),("_law_stream",968,589),("_law_gcd",978,596),("_law_ratio",987,603),("_law_is_ratio",995,610),("_law_are_ratios",1001,615),("_law_same",1009,622),("_law_names",1015,627),("_law_share",1024,634),("_law_pay",1033,641),("_law_door",1039,646),("_law_doors",1045,651),("_law_built",1051,656),("_law_hall",1057,661),("_law_chosen",1068,668),("_law_size",1076,675),("_law_came",1092,682),("_law_right",1106,689),("_law_odd",1114,696),("_law_spoilt",1128,703),("_law_refused",1138,710)]++[]) 92
def q21:Obj:=fV "_wall" 0 mo0 20
def q22:Obj:=⟨.type "tuple",none,.seq ⟨.type "ValueError"::[]⟩ 0,⟨[]⟩⟩
def q24(P:Params):Obj:=wD (dC P 203 mo1 "HallError" 5 <|dR P "__static_attributes__" 208 29::[]) 4
def q30(P:Params):Obj:=wD (dF P 203 mo1 5 <|dR P "__static_attributes__" 208 29::dR P "__weakref__" 210 32::dE P "__doc__" 211 .none::[]) 3
def q31:Obj:=wK "HallError" [.type "ValueError"] [.ref 31,.type "ValueError",.type "Exception",.type "BaseException",.type "object"] 30 [.ref 44,.ref 56,.ref 68,.ref 80,.ref 99,.ref 118] (some (.ref 22)) 196 204 "ValueError.__new__"
def q37(P:Params):Obj:=wD (dC P 221 mo1 "NoNumber" 7 <|dR P "__static_attributes__" 226 42::[]) 4
def q43(P:Params):Obj:=wD (dF P 221 mo1 7 <|dR P "__static_attributes__" 226 42::dE P "__doc__" 227 .none::[]) 2
def q44:Obj:=wX "NoNumber" 44 43 35 214 222
def q49(P:Params):Obj:=wD (dC P 237 mo1 "NoName" 9 <|dR P "__static_attributes__" 242 54::[]) 4
def q55(P:Params):Obj:=wD (dF P 237 mo1 9 <|dR P "__static_attributes__" 242 54::dE P "__doc__" 243 .none::[]) 2
def q56:Obj:=wX "NoName" 56 55 47 230 238
def q61(P:Params):Obj:=wD (dC P 253 mo1 "NoChance" 11 <|dR P "__static_attributes__" 258 66::[]) 4
def q67(P:Params):Obj:=wD (dF P 253 mo1 11 <|dR P "__static_attributes__" 258 66::dE P "__doc__" 259 .none::[]) 2
def q68:Obj:=wX "NoChance" 68 67 59 246 254
def q73(P:Params):Obj:=wD (dC P 269 mo1 "NoShare" 13 <|dR P "__static_attributes__" 274 78::[]) 4
def q79(P:Params):Obj:=wD (dF P 269 mo1 13 <|dR P "__static_attributes__" 274 78::dE P "__doc__" 275 .none::[]) 2
def q80:Obj:=wX "NoShare" 80 79 71 262 270
def q85(P:Params):Obj:=wD (dC P 285 mo1 "NoRoom" 15 <|dR P "__init__" 297 96::dR P "__static_attributes__" 299 97::[]) 5
def q95:Obj:=cO "__init__" "NoRoom.__init__" 290 17 2 3 90 295
def q96:Obj:=fO "__init__" "NoRoom.__init__" (gA 7 0) mo1 95
def q98(P:Params):Obj:=wD (dF P 285 mo1 15 <|dR P "__init__" 297 96::dR P "__static_attributes__" 299 97::dE P "__doc__" 300 .none::[]) 2
def q99:Obj:=wX "NoRoom" 99 98 83 278 286
def alL(P:Params):Obj:=wD (dC P 310 mo1 "NoPlan" 20 <|dR P "__init__" 322 115::dR P "__static_attributes__" 324 116::[]) 5
def aii:Obj:=cO "__init__" "NoPlan.__init__" 315 22 2 3 109 320
def aju:Obj:=fO "__init__" "NoPlan.__init__" (gA 8 0) mo1 114
def ajv(P:Params):Obj:=wD (dF P 310 mo1 20 <|dR P "__init__" 322 115::dR P "__static_attributes__" 324 116::dE P "__doc__" 325 .none::[]) 2
def ahx:Obj:=wX "NoPlan" 118 117 102 303 311
def ahr:Obj:=fV "is_whole" 10 mo2 126
def akX:Obj:=tN 340 Ks
def akk:Obj:=fV "divisor" 11 mo2 133
def ah9:Obj:=⟨.type "tuple",none,.seq ⟨.int 0 350::.int 1 351::[]⟩ 0,⟨[]⟩⟩
def ahC:Obj:=⟨.type "tuple",none,.seq ⟨.int 1 353::.int 1 354::[]⟩ 0,⟨[]⟩⟩
def alc:Obj:=fV "ratio" 15 mo3 142
def ajq:Obj:=fV "is_ratio" 16 mo3 149
def akI:Obj:=fV "plus" 17 mo3 156
def ahm:Obj:=fV "minus" 18 mo3 163
def aiU:Obj:=fV "times" 19 mo3 170
def ahE:Obj:=fV "over" 20 mo3 177
def aiD:Obj:=fV "under" 21 mo3 184
def alq:Obj:=fV "level" 23 mo4 189
def ajx:Obj:=fV "total" 24 mo4 196
def akP:Obj:=fV "fits" 26 mo5 203
def ajz:Obj:=cU "check_plan" 440 80 2 3 205 447
def akE:Obj:=fV "check_plan" 27 mo5 210
def ahW:Obj:=fV "lowest" 29 mo6 215
def aln:Obj:=cV "row_times" 458 93 2 3 217 461
def akj:Obj:=fV "row_times" 30 mo6 220
def aiY:Obj:=fV "row_plus" 31 mo6 225
def ahD:Obj:=cU "take_step" 470 102 2 3 227 476
def ajd:Obj:=fV "take_step" 32 mo6 232
def ali:Obj:=cU "number_at" 479 111 2 3 234 484
def ai3:Obj:=fV "number_at" 33 mo6 239
def ahI:Obj:=cV "fractions_of" 487 113 1 3 241 490
def aiM:Obj:=fV "fractions_of" 34 mo6 244
def aik:Obj:=tN 496 Br
def aiC:Obj:=cU "first_from" 493 115 3 3 246 500
def ajo:Obj:=fV "first_from" 35 mo6 251
def ak6:Obj:=fV "go_on" 36 mo6 258
def ald:Obj:=tN 515 Eh
def ait:Obj:=cU "begin_row" 512 123 5 3 260 521
def ah8:Obj:=fV "begin_row" 37 mo6 265
def ajy:Obj:=tN 527 wu
def aja:Obj:=cU "clear_column" 524 129 4 3 267 533
def ahz:Obj:=fV "clear_column" 38 mo6 272
def ahB:Obj:=fV "reduced" 39 mo6 277
def ah0:Obj:=cU "width_of" 544 146 1 3 279 548
def ajk:Obj:=fV "width_of" 41 mo7 284
def ahk:Obj:=cV "with_rights" 551 150 2 3 286 554
def ale:Obj:=fV "with_rights" 42 mo7 289
def ajj:Obj:=cV "begins_of" 557 152 2 3 291 560
def ah2:Obj:=fV "begins_of" 43 mo7 294
def ajL:Obj:=fV "odd_row" 44 mo7 301
def ak1:Obj:=tN 576 Eb
def ai6:Obj:=cU "answer_of" 573 164 3 3 303 582
def aks:Obj:=fV "answer_of" 45 mo7 308
def ahu:Obj:=cV "single_rows" 585 169 1 3 310 588
def alx:Obj:=fV "single_rows" 46 mo7 313
def ahT:Obj:=tN 594 yL
def aly:Obj:=cU "only_answer" 591 171 2 3 315 599
def ak0:Obj:=fV "only_answer" 47 mo7 320
def akh:Obj:=cV "chosen_doors" 604 179 2 3 322 607
def alF:Obj:=fV "chosen_doors" 49 mo8 325
def ahX:Obj:=tN 613 Ed
def aj3:Obj:=cU "left_rows" 610 181 2 3 327 620
def akY:Obj:=fV "left_rows" 50 mo8 332
def ain:Obj:=fV "turned" 51 mo8 337
def alw:Obj:=cV "visits_from" 629 190 3 3 339 632
def aix:Obj:=fV "visits_from" 52 mo8 342
def ah4:Obj:=fV "is_word" 55 mo9 347
def ahZ:Obj:=cU "check_head" 647 202 2 3 349 652
def ahL:Obj:=fV "check_head" 57 pQ 354
def akn:Obj:=cU "check_room_name" 655 207 1 3 356 659
def aie:Obj:=fV "check_room_name" 58 pQ 361
def ajm:Obj:=cU "check_chance" 662 210 1 3 363 666
def aiO:Obj:=fV "check_chance" 59 pQ 368
def aiQ:Obj:=cV "check_pairs" 669 213 1 3 370 672
def ajC:Obj:=fV "check_pairs" 60 pQ 373
def aj0:Obj:=cV "joined_ways" 675 219 1 3 375 678
def ajb:Obj:=fV "joined_ways" 61 pQ 378
def al3(P:Params):Obj:=wD (dC P 688 pQ "Door" 224 <|dM P [("__init__",701,393),("ways",708,400),("chance_to",716,407),("__static_attributes__",720,408)]++[]) 7
def ahM:Obj:=cO "__init__" "Door.__init__" 693 226 3 3 387 699
def akK:Obj:=fO "__init__" "Door.__init__" (gA 62 0) pQ 392
def ahY:Obj:=fO "ways" "Door.ways" (gA 62 1) pQ 399
def ajw:Obj:=cO "chance_to" "Door.chance_to" 709 235 2 3 401 714
def akA:Obj:=fO "chance_to" "Door.chance_to" (gA 62 2) pQ 406
def akB(P:Params):Obj:=wD (dF P 688 pQ 224 <|dM P [("__init__",701,393),("ways",708,400),("chance_to",716,407),("__static_attributes__",720,408),("__dict__",722,411),("__weakref__",724,412)]++dE P "__doc__" 725 .none::[]) 4
def ajh:Obj:=wK "Door" [.type "object"] [.ref 410,.type "object"] 409 [.ref 431,.ref 450] none 681 689 "object.__new__"
def ahV:Obj:=⟨.type "getset_descriptor",none,.fields ⟨.str "__dict__" 721::.ref 410::.builtin "function.__dict__"::.builtin "function.__dict__#set"::[]⟩,⟨[]⟩⟩
def am0(P:Params):Obj:=wD (dC P 735 pQ "Sure" 237 <|dR P "__init__" 749 428::dR P "__static_attributes__" 751 429::[]) 5
def ajD:Obj:=cO "__init__" "Sure.__init__" 740 239 4 3 422 747
def ajZ:Obj:=fO "__init__" "Sure.__init__" (gA 63 0) pQ 427
def aiV(P:Params):Obj:=wD (dF P 735 pQ 237 <|dR P "__init__" 749 428::dR P "__static_attributes__" 751 429::dE P "__doc__" 752 .none::[]) 2
def ahh:Obj:=wK "Sure" [.ref 410] [.ref 431,.ref 410,.type "object"] 430 [] (some (.ref 415)) 728 736 "object.__new__"
def amT(P:Params):Obj:=wD (dC P 762 pQ "Mixed" 243 <|dR P "__init__" 776 447::dR P "__static_attributes__" 778 448::[]) 5
def aj8:Obj:=cO "__init__" "Mixed.__init__" 767 245 4 3 441 774
def ajp:Obj:=fO "__init__" "Mixed.__init__" (gA 64 0) pQ 446
def ajI(P:Params):Obj:=wD (dF P 762 pQ 243 <|dR P "__init__" 776 447::dR P "__static_attributes__" 778 448::dE P "__doc__" 779 .none::[]) 2
def akW:Obj:=wK "Mixed" [.ref 410] [.ref 450,.ref 410,.type "object"] 449 [.ref 469,.ref 486] (some (.ref 434)) 755 763 "object.__new__"
def amn(P:Params):Obj:=wD (dC P 789 pQ "Toss" 249 <|dR P "__init__" 805 466::dR P "__static_attributes__" 806 467::[]) 5
def akf:Obj:=tN 797 DX
def ahF:Obj:=cO "__init__" "Toss.__init__" 794 251 6 3 460 803
def aic:Obj:=fO "__init__" "Toss.__init__" (gA 65 0) pQ 465
def ahH(P:Params):Obj:=wD (dF P 789 pQ 249 <|dR P "__init__" 805 466::dR P "__static_attributes__" 806 467::dE P "__doc__" 807 .none::[]) 2
def ak4:Obj:=wK "Toss" [.ref 450] [.ref 469,.ref 450,.ref 410,.type "object"] 468 [] (some (.ref 453)) 782 790 "object.__new__"
def anb(P:Params):Obj:=wD (dC P 817 pQ "Even" 255 <|dR P "__init__" 827 483::dR P "__static_attributes__" 828 484::[]) 5
def alj:Obj:=cP "__init__" "Even.__init__" 822 257 4 3 479 825
def akJ:Obj:=fO "__init__" "Even.__init__" (gA 66 0) pQ 482
def ais(P:Params):Obj:=wD (dF P 817 pQ 255 <|dR P "__init__" 827 483::dR P "__static_attributes__" 828 484::dE P "__doc__" 829 .none::[]) 2
def ahK:Obj:=wK "Even" [.ref 450] [.ref 486,.ref 450,.ref 410,.type "object"] 485 [] (some (.ref 472)) 810 818 "object.__new__"
def ajY:Obj:=cU "check_share" 834 260 1 3 489 838
def alg:Obj:=fV "check_share" 68 Dr 494
def ajN:Obj:=cU "numbers_of" 841 263 1 3 496 848
def aif:Obj:=fV "numbers_of" 69 Dr 501
def ahO:Obj:=tN 854 ur
def akq:Obj:=cU "numbered_ways" 851 271 2 3 503 859
def akc:Obj:=fV "numbered_ways" 70 Dr 508
def ai9:Obj:=tN 865 DW
def aiI:Obj:=cU "offers_of" 862 278 2 3 510 870
def alG:Obj:=fV "offers_of" 71 Dr 515
def amQ(P:Params):Obj:=wD (dC P 880 Dr "Hall" 287 <|dM P [("__init__",890,528),("size",897,535),("names",904,542),("place",912,549),("check_room",920,556),("door_at",929,563),("offers",935,568),("__static_attributes__",939,569)]++[]) 11
def alk:Obj:=cP "__init__" "Hall.__init__" 885 289 3 3 524 888
def ajg:Obj:=fO "__init__" "Hall.__init__" (gA 72 0) Dr 527
def aiB:Obj:=fO "size" "Hall.size" (gA 72 1) Dr 534
def akL:Obj:=fO "names" "Hall.names" (gA 72 2) Dr 541
def aia:Obj:=fO "place" "Hall.place" (gA 72 3) Dr 548
def ajM:Obj:=cO "check_room" "Hall.check_room" 913 306 2 3 550 918
def ahG:Obj:=fO "check_room" "Hall.check_room" (gA 72 4) Dr 555
def ajO:Obj:=cO "door_at" "Hall.door_at" 921 310 3 3 557 927
def ajG:Obj:=fO "door_at" "Hall.door_at" (gA 72 5) Dr 562
def aiW:Obj:=cP "offers" "Hall.offers" 930 313 2 3 564 933
def ajB:Obj:=fO "offers" "Hall.offers" (gA 72 6) Dr 567
def ahy(P:Params):Obj:=wD (dF P 880 Dr 287 <|dM P [("__init__",890,528),("size",897,535),("names",904,542),("place",912,549),("check_room",920,556),("door_at",929,563),("offers",935,568),("__static_attributes__",939,569),("__dict__",941,572),("__weakref__",943,573)]++dE P "__doc__" 944 .none::[]) 4
def aht:Obj:=wK "Hall" [.type "object"] [.ref 571,.type "object"] 570 [] none 873 881 "object.__new__"
def akT:Obj:=⟨.type "getset_descriptor",none,.fields ⟨.str "__dict__" 940::.ref 571::.builtin "function.__dict__"::.builtin "function.__dict__#set"::[]⟩,⟨[]⟩⟩
def ai2:Obj:=cU "_law_cell" 949 317 2 3 576 954
def aku:Obj:=fV "_law_cell" 74 n6 581
def aiL:Obj:=tN 960 Sv
def aiN:Obj:=cU "_law_stream" 957 319 2 3 583 966
def akN:Obj:=fV "_law_stream" 75 n6 588
def aky:Obj:=tN 972 aez
def akF:Obj:=cU "_law_gcd" 969 330 2 3 590 976
def ak5:Obj:=fV "_law_gcd" 76 n6 595
def aj4:Obj:=tN 982 QX
def akb:Obj:=cU "_law_ratio" 979 335 2 3 597 985
def akO:Obj:=fV "_law_ratio" 77 n6 602
def akl:Obj:=cU "_law_is_ratio" 988 338 1 3 604 993
def alE:Obj:=fV "_law_is_ratio" 78 n6 609
def ajV:Obj:=cV "_law_are_ratios" 996 345 2 3 611 999
def ajR:Obj:=fV "_law_are_ratios" 79 n6 614
def alr:Obj:=cU "_law_same" 1002 349 2 3 616 1007
def ah6:Obj:=fV "_law_same" 80 n6 621
def ajH:Obj:=cV "_law_names" 1010 351 2 3 623 1013
def aj6:Obj:=fV "_law_names" 81 n6 626
def ajl:Obj:=tN 1019 Vr
def aje:Obj:=cU "_law_share" 1016 360 1 3 628 1022
def ak7:Obj:=fV "_law_share" 82 n6 633
def ake:Obj:=tN 1028 aey
def akm:Obj:=cU "_law_pay" 1025 364 3 3 635 1031
def ahp:Obj:=fV "_law_pay" 83 n6 640
def alD:Obj:=cV "_law_door" 1034 372 2 3 642 1037
def alz:Obj:=fV "_law_door" 84 n6 645
def akS:Obj:=cV "_law_doors" 1040 389 4 3 647 1043
def ajX:Obj:=fV "_law_doors" 85 n6 650
def ahS:Obj:=cV "_law_built" 1046 399 3 3 652 1049
def aiZ:Obj:=fV "_law_built" 86 n6 655
def ahn:Obj:=cV "_law_hall" 1052 409 3 3 657 1055
def ala:Obj:=fV "_law_hall" 87 n6 660
def aji:Obj:=tN 1061 RZ
def air:Obj:=cU "_law_chosen" 1058 416 2 3 662 1066
def ajn:Obj:=fV "_law_chosen" 88 n6 667
def ah7:Obj:=cU "_law_size" 1069 425 1 3 669 1074
def ai5:Obj:=fV "_law_size" 89 n6 674
def alf:Obj:=tN 1080 aaW
def ai1:Obj:=cU "_law_came" 1077 430 4 3 676 1090
def akp:Obj:=fV "_law_came" 90 n6 681
def aj9:Obj:=tN 1096 ["_law_found","_law_share_here","_law_rooms","_law_plan","_law_start","_law_room","_law_top","_law_bottom"]
def als:Obj:=cU "_law_right" 1093 441 5 3 683 1104
def alB:Obj:=fV "_law_right" 91 n6 688
def akg:Obj:=cU "_law_odd" 1107 450 2 3 690 1112
def ahs:Obj:=fV "_law_odd" 92 n6 695
def ajt:Obj:=tN 1118 ["_law_cell_here","_law_plan","_law_rooms","_law_xs","_law_some","_law_at","_law_later","_law_found"]
def ak2:Obj:=cU "_law_spoilt" 1115 454 3 3 697 1126
def ah3:Obj:=fV "_law_spoilt" 93 n6 702
def aiS:Obj:=tN 1132 Kv
def alu:Obj:=cU "_law_refused" 1129 468 3 3 704 1136
def akx:Obj:=fV "_law_refused" 94 n6 709
def tr1(P:Params):BT:=nd (boot_o_0 P) (nd (boot_o_1 P) (nd (amL P) (nd (boot_o_7 P) (nd tE (nd q31 (nd fE (nd ahr (n1 (tN 506 MF) fE) (n1 tE (fU "_law_pay" 83))) (nd tE (n1 (fU "only_answer" 47) (wB 571)) (n1 ajp ah3))) (nd q95 (nd fE (n1 fE tE) (n1 (wT 410) (tN 1072 Tr))) (nd fE (n1 (tN 650 sI) tE) (lf tE)))) (nd (wT 31) (nd (q79 P) (nd alc (n1 (fU "clear_column" 38) alk) (n1 (cO "ways" "Door.ways" 702 232 1 3 394 706) ahS)) (nd (tN 443 su) (n1 fE fE) (lf tE))) (nd (tN 318 dH) (nd tE (n1 tE (tN 924 uR)) (n1 ahh (fU "_law_right" 91))) (nd ali (n1 (fU "check_chance" 59) tE) (lf alg))))) (nd wA (nd fE (nd (wT 31) (nd ah9 (n1 tE (amQ P)) (n1 (fT "__init__" "Door.__init__" (gA 62 0)) tE)) (nd fE (n1 tE tE) (lf (amn P)))) (nd wA (nd (tN 393 cM) (n1 ah2 fE) (n1 fE tE)) (nd (fU "take_step" 32) (n1 tE ajR) (lf (wS 486))))) (nd (q55 P) (nd (⟨.none,none,.fields ⟨i3 17 4 95 <|[]⟩,⟨[]⟩⟩) (nd tE (n1 tE aiB) (n1 akA fE)) (nd (cV "lowest" 452 88 2 3 212 455) (n1 aix aj4) (lf (wB 469)))) (nd (wS 118) (nd (fU "under" 21) (n1 fE aiW) (n1 (wC "Mixed" 757 243 437 760) akg)) (nd fE (n1 tE tE) (lf tE)))))) (nd o11 (nd (fU "_wall" 0) (nd (wT 31) (nd (q67 P) (nd tE (n1 ak6 aiI) (n1 tE fE)) (nd (fU "total" 24) (n1 fE tE) (n1 (wS 450) tE))) (nd q99 (nd (cU "minus" 382 58 2 3 158 387) (n1 tE (fT "place" "Hall.place" (gA 72 3))) (n1 (⟨.none,none,.fields ⟨i3 239 4 427 <|[]⟩,⟨[]⟩⟩) ai5)) (nd tE (n1 ahL tE) (lf akJ)))) (nd fE (nd (wT 31) (nd tE (n1 fE (tN 894 ["self"])) (n1 (tN 712 dH) (fU "_law_hall" 87))) (nd akE (n1 tE akF) (lf tE))) (nd aju (nd tE (n1 (fU "answer_of" 45) ajG) (n1 wA fE)) (nd (fU "fractions_of" 34) (n1 fE aj6) (lf tE))))) (nd (wC "HallError" 198 5 25 201) (nd (q43 P) (nd fE (nd (tN 359 N7) (n1 tE (wF 522 519 "chancehall.halls" 832)) (n1 fE ajX)) (nd (cU "fits" 432 76 2 3 198 437) (n1 (fU "left_rows" 50) (fU "_law_stream" 75)) (lf (wF 458 455 "chancehall.doors" 645)))) (nd (wC "NoPlan" 305 20 105 308) (nd aiU (n1 tE ajM) (n1 ajD tE)) (nd fE (n1 tE tE) (lf (tN 837 ["share"]))))) (nd (wT 31) (nd fE (nd (fU "plus" 17) (n1 (fU "width_of" 41) tE) (n1 ahV air)) (nd (fU "row_times" 30) (n1 (cV "is_word" 639 197 1 3 344 642) akO) (lf tE))) (nd (tN 333 ["thing"]) (nd fE (n1 tE aht) (n1 (tN 770 tR) ajt)) (nd aiC (n1 ajb tE) (lf (fU "numbered_ways" 70)))))))) (nd (boot_o_5 P) (nd (boot_o_9 P) (nd (tN 190 ["k"]) (nd (wS 31) (nd (wF 64 61 "chancehall.errors" 194) (nd fE (n1 (fU "go_on" 36) tE) (n1 (wC "Door" 683 224 383 686) ahp)) (nd (tN 425 Ob) (n1 ak0 fE) (n1 (ajI P) fE))) (nd (tN 298 ["room"]) (nd tE (n1 ahk (tN 908 CG)) (n1 (am0 P) (fU "_law_size" 89))) (nd (cV "row_plus" 464 95 3 3 222 467) (n1 (fU "check_head" 57) akl) (lf (fT "__init__" "Even.__init__" (gA 66 0)))))) (nd (q49 P) (nd (wS 80) (nd fE (n1 ahz tE) (n1 tE tE)) (nd (fU "check_plan" 27) (n1 (cV "turned" 623 188 1 3 334 626) tE) (lf ahF))) (nd (fT "__init__" "NoPlan.__init__" (gA 8 0)) (nd (cU "over" 398 62 2 3 172 403) (n1 ak1 (fT "door_at" "Hall.door_at" (gA 72 5))) (n1 (wB 431) alB)) (nd tE (n1 aiO (fU "_law_names" 81)) (lf fE))))) (nd tE (nd (wF 40 37 "chancehall.errors" 194) (nd (q73 P) (nd tE (n1 ait (⟨.none,none,.fields ⟨i3 289 4 527 <|i3 295 4 534 <|i3 298 4 541 <|i3 301 4 548 <|i3 306 4 555 <|i3 310 4 562 <|i3 313 4 567 <|[]⟩,⟨[]⟩⟩)) (n1 akK (fU "_law_doors" 85))) (nd tE (n1 ahX aiL) (lf (⟨.none,none,.fields ⟨i3 251 4 465 <|[]⟩,⟨[]⟩⟩)))) (nd tE (nd (fU "times" 19) (n1 fE tE) (n1 tE ai1)) (nd ajd (n1 akn fE) (lf tE)))) (nd (wS 56) (nd (wF 88 85 "chancehall.errors" 194) (nd (tN 377 cM) (n1 (tN 547 ["rows"]) fE) (n1 (akB P) tE)) (nd tE (n1 fE (fU "_law_ratio" 77)) (lf wA))) (nd tE (nd aiD (n1 ahu (tN 936 ["numbers","offered","share"])) (n1 tE tE)) (nd tE (n1 (fU "joined_ways" 61) aje) (lf ahO)))))) (nd o13 (nd q21 (nd (q37 P) (nd (wS 68) (nd (cU "divisor" 337 28 2 3 128 345) (n1 fE tE) (n1 (tN 696 vg) alD)) (nd ajx (n1 akh ai2) (n1 (wT 450) alu))) (nd (wB 99) (nd tE (n1 (fU "begins_of" 43) aia) (n1 (wF 420 417 "chancehall.doors" 645) fE)) (nd (tN 473 vU) (n1 fE (fU "_law_are_ratios" 79)) (lf (ais P))))) (nd (wF 52 49 "chancehall.errors" 194) (nd (q85 P) (nd (cU "is_ratio" 365 48 1 3 144 371) (n1 (cV "reduced" 536 134 2 3 274 539) (fT "size" "Hall.size" (gA 72 1))) (n1 (fT "chance_to" "Door.chance_to" (gA 62 2)) ala)) (nd fE (n1 (fU "visits_from" 52) tE) (lf ak4))) (nd (ajv P) (nd (tN 409 cM) (n1 aks fE) (n1 tE tE)) (nd aiM (n1 aiQ fE) (lf ajN))))) (nd tE (nd (wS 44) (nd (wF 76 73 "chancehall.errors" 194) (nd (fU "ratio" 15) (n1 ajy fE) (n1 tE fE)) (nd tE (n1 akY akN) (lf fE))) (nd tE (nd fE (n1 (cU "odd_row" 563 159 3 3 296 570) tE) (n1 (tN 750 ["leads"]) aj9)) (nd tE (n1 (tN 665 ["chance"]) alr) (lf (fU "check_share" 68))))) (nd (q61 P) (nd tE (nd akI (n1 ajk (cO "names" "Hall.names" 898 298 1 3 536 902)) (n1 (wS 410) tE)) (nd akj (n1 tE fE) (lf (wC "Even" 812 255 475 815)))) (nd (fU "is_whole" 10) (nd (cV "level" 416 67 1 3 186 419) (n1 ahT (wG 942 571)) (n1 (fT "__init__" "Mixed.__init__" (gA 64 0)) (fU "_law_spoilt" 93))) (nd tE (n1 wA ake) (lf akc)))))))) (nd (boot_o_2 P) (nd (boot_o_4 P) (nd (boot_o_8 P) (nd fE (nd (wG 209 31) (nd (wC "NoChance" 248 11 62 251) (nd tE (n1 tE ai9) (n1 (⟨.none,none,.fields ⟨i3 226 4 392 <|i3 232 4 399 <|i3 235 4 406 <|[]⟩,⟨[]⟩⟩) akm)) (nd fE (n1 aly tE) (n1 (tN 777 ["leads"]) tE))) (nd q96 (nd (tN 385 cM) (n1 (fU "with_rights" 42) fE) (n1 wA tE)) (nd (fU "row_plus" 31) (n1 tE (fU "_law_is_ratio" 78)) (lf fE)))) (nd wA (nd q80 (nd tE (n1 aja ajg) (n1 ahY aiZ)) (nd tE (n1 (fU "turned" 51) aky) (lf (fT "__init__" "Toss.__init__" (gA 65 0))))) (nd tE (nd (fU "over" 20) (n1 fE tE) (n1 (wS 431) als)) (nd ai3 (n1 ajm fE) (lf tE))))) (nd (q24 P) (nd (wC "NoNumber" 216 7 38 219) (nd wA (nd ahC (n1 (fU "begin_row" 37) tE) (n1 ahM fE)) (nd (tN 435 U3) (n1 fE fE) (lf tE))) (nd (alL P) (nd tE (n1 tE (tN 916 dH)) (n1 (tN 743 vR) (fU "_law_came" 90))) (nd ahD (n1 (fU "check_room_name" 58) tE) (lf (wB 486))))) (nd q56 (nd (wC "NoRoom" 280 15 86 283) (nd fE (n1 fE tE) (n1 (tN 717 ["leads","name","pay"]) aji)) (nd ahW (n1 tE tE) (lf (wT 450)))) (nd (wB 118) (nd (cU "under" 406 64 2 3 179 411) (n1 (fU "single_rows" 46) ajB) (n1 (wF 439 436 "chancehall.doors" 645) ahs)) (nd aik (n1 fE (fU "_law_share" 82)) (lf fE)))))) (nd (⟨.none,none,.fields ⟨i3 1 0 20 <|i3 5 0 27 <|i3 7 0 40 <|i3 9 0 52 <|i3 11 0 64 <|i3 13 0 76 <|i3 15 0 88 <|i3 20 0 107 <|i3 26 0 126 <|i3 28 0 133 <|i3 39 0 142 <|i3 48 0 149 <|i3 56 0 156 <|i3 58 0 163 <|i3 60 0 170 <|i3 62 0 177 <|i3 64 0 184 <|i3 67 0 189 <|i3 72 0 196 <|i3 76 0 203 <|i3 80 0 210 <|i3 88 0 215 <|i3 93 0 220 <|i3 95 0 225 <|i3 102 0 232 <|i3 111 0 239 <|i3 113 0 244 <|i3 115 0 251 <|i3 120 0 258 <|i3 123 0 265 <|i3 129 0 272 <|i3 134 0 277 <|i3 146 0 284 <|i3 150 0 289 <|i3 152 0 294 <|i3 159 0 301 <|i3 164 0 308 <|i3 169 0 313 <|i3 171 0 320 <|i3 179 0 325 <|i3 181 0 332 <|i3 188 0 337 <|i3 190 0 342 <|i3 197 0 347 <|i3 202 0 354 <|i3 207 0 361 <|i3 210 0 368 <|i3 213 0 373 <|i3 219 0 378 <|i3 224 0 385 <|i3 237 0 420 <|i3 243 0 439 <|i3 249 0 458 <|i3 255 0 477 <|i3 260 0 494 <|i3 263 0 501 <|i3 271 0 508 <|i3 278 0 515 <|i3 287 0 522 <|i3 317 0 581 <|i3 319 0 588 <|i3 330 0 595 <|i3 335 0 602 <|i3 338 0 609 <|i3 345 0 614 <|i3 349 0 621 <|i3 351 0 626 <|i3 360 0 633 <|i3 364 0 640 <|i3 372 0 645 <|i3 389 0 650 <|i3 399 0 655 <|i3 409 0 660 <|i3 416 0 667 <|i3 425 0 674 <|i3 430 0 681 <|i3 441 0 688 <|i3 450 0 695 <|i3 454 0 702 <|i3 468 0 709 <|[]⟩,⟨[]⟩⟩) (nd (cU "_wall" 187 1 1 3 15 191) (nd wA (nd q68 (nd (fU "divisor" 11) (n1 tE alG) (n1 fE (fU "_law_door" 84))) (nd (cU "total" 422 72 1 3 191 427) (n1 (fU "chosen_doors" 49) (fU "_law_cell" 74)) (n1 (wB 450) (fU "_law_refused" 94)))) (nd (wS 99) (nd ahm (n1 fE (cO "place" "Hall.place" 905 301 2 3 543 910)) (n1 (wC "Sure" 730 237 418 733) tE)) (nd fE (n1 tE fE) (lf tE)))) (nd (wC "NoName" 232 9 50 235) (nd wA (nd (fU "is_ratio" 16) (n1 (fU "reduced" 39) tE) (n1 tE ahn)) (nd tE (n1 fE ak5) (lf (ahH P)))) (nd (tN 323 ["room"]) (nd fE (n1 ai6 tE) (n1 (amT P) (tN 1110 dY))) (nd ahI (n1 (fU "check_pairs" 60) tE) (lf (fU "numbers_of" 69)))))) (nd (wF 27 24 "chancehall.errors" 194) (nd q44 (nd (wC "NoShare" 264 13 74 267) (nd tE (n1 fE tE) (n1 (tN 705 ["self"]) tE)) (nd akP (n1 aj3 aiN) (lf tE))) (nd (wF 107 104 "chancehall.errors" 194) (nd tE (n1 (fU "odd_row" 44) ahG) (n1 ajZ fE)) (nd (tN 482 xH) (n1 fE (fU "_law_same" 80)) (lf tE)))) (nd wA (nd (tN 293 dH) (nd (cU "plus" 374 56 2 3 151 379) (n1 ah0 (fT "names" "Hall.names" (gA 72 2))) (n1 (wG 723 410) ajn)) (nd aln (n1 ah4 tE) (lf (⟨.none,none,.fields ⟨i3 257 4 482 <|[]⟩,⟨[]⟩⟩)))) (nd tE (nd (fU "level" 23) (n1 fE akT) (n1 tE tE)) (nd ajo (n1 tE fE) (lf akq))))))) (nd (boot_o_6 P) (nd (boot_o_10 P) (nd tE (nd (wB 31) (nd tE (nd akX (n1 (cU "go_on" 503 120 3 3 253 509) (fU "offers_of" 71)) (n1 (wF 385 382 "chancehall.doors" 645) tE)) (nd tE (n1 tE (tN 952 Uy)) (n1 akW aiS))) (nd (q98 P) (nd (fU "minus" 18) (n1 ale tE) (n1 tE ah7)) (nd aiY (n1 ahZ alE) (lf alj)))) (nd tE (nd (wB 80) (nd (tN 368 zm) (n1 tE fE) (n1 fE fE)) (nd ajz (n1 ain (fU "_law_gcd" 76)) (lf aic))) (nd aii (nd ahE (n1 tE ajO) (n1 (wT 410) tE)) (nd fE (n1 tE ajH) (lf (tN 844 tW)))))) (nd fE (nd tE (nd tE (nd fE (n1 ah8 (wC "Hall" 875 287 520 878)) (n1 tE akS)) (nd (fU "fits" 26) (n1 tE tE) (lf (wC "Toss" 784 249 456 787)))) (nd (⟨.none,none,.fields ⟨i3 22 4 114 <|[]⟩,⟨[]⟩⟩) (nd (cU "times" 390 60 2 3 165 395) (n1 (tN 566 CV) (fT "check_room" "Hall.check_room" (gA 72 4))) (n1 (fT "__init__" "Sure.__init__" (gA 63 0)) akp)) (nd tE (n1 aie (tN 1005 xJ)) (lf fE)))) (nd (wB 56) (nd tE (nd tE (n1 tE (tN 901 ["self"])) (n1 ajh (fU "_law_chosen" 88))) (nd fE (n1 (fU "is_word" 55) akb) (lf (anb P)))) (nd fE (nd tE (n1 alx (ahy P)) (n1 fE fE)) (nd (fU "first_from" 35) (n1 aj0 ak7) (lf tE)))))) (nd o14 (nd q22 (nd tE (nd (wB 68) (nd akk (n1 ald wA) (n1 tE alz)) (nd tE (n1 alF aku) (n1 wA akx))) (nd (wT 31) (nd fE (n1 ajj tE) (n1 tE alf)) (nd tE (n1 (tN 658 ["room"]) ajV) (lf ahK)))) (nd tE (nd tE (nd ajq (n1 ahB (cO "size" "Hall.size" 891 295 1 3 529 895)) (n1 ajw tE)) (nd (fU "lowest" 29) (n1 alw fE) (lf (wS 469)))) (nd ahx (nd tE (n1 tE (fT "offers" "Hall.offers" (gA 72 6))) (n1 (⟨.none,none,.fields ⟨i3 245 4 446 <|[]⟩,⟨[]⟩⟩) (fU "_law_odd" 92))) (nd tE (n1 ajC ajl) (lf aif))))) (nd (q30 P) (nd (wB 44) (nd tE (nd (cU "ratio" 356 39 2 3 137 362) (n1 tE (fT "__init__" "Hall.__init__" (gA 72 0))) (n1 (fT "ways" "Door.ways" (gA 62 1)) (fU "_law_built" 86))) (nd fE (n1 tE tE) (lf akf))) (nd fE (nd (tN 401 cM) (n1 ajL fE) (n1 (aiV P) tE)) (nd (fU "number_at" 33) (n1 tE ah6) (lf ajY)))) (nd tE (nd (fT "__init__" "NoRoom.__init__" (gA 7 0)) (nd tE (n1 tE akL) (n1 (wB 410) fE)) (nd tE (n1 fE (tN 991 wQ)) (lf (wF 477 474 "chancehall.doors" 645)))) (nd (cU "is_whole" 330 26 1 3 121 334) (nd alq (n1 tE (wS 571)) (n1 aj8 ak2)) (nd fE (n1 (al3 P) tE) (lf tE))))))))
def S1(w:World)(os:OsState):SharedT:=⟨tr1 w.params,711,{},⟨[]⟩,{},1139,os⟩
def e1:Pos:=⟨468,0,475,25⟩
def KH:Params->Frag:=λP=>(
 (nat_lit 2,boot_o_2 P)::(nat_lit 3,wD (dE P "__name__" 165 n6::dE P "__doc__" 166 .none::dE P "__package__" 167 .none::dE P "__loader__" 168 (.builtin "__main__.__loader__#opaque")::dE P "__spec__" 169 .none::dR P "__annotations__" 170 6::dR P "__builtins__" 171 4::dE P "__file__" 173 (.str "/claim/cut.py" 172)::dE P "__cached__" 174 .none::dM P [("_wall",193,21),("HallError",213,31),("NoNumber",229,44),("NoName",245,56),("NoChance",261,68),("NoShare",277,80),("NoRoom",302,99),("NoPlan",327,118),("is_whole",336,127),("divisor",347,134),("NOUGHT",352,135),("ONE",355,136),("ratio",364,143),("is_ratio",373,150),("plus",381,157),("minus",389,164),("times",397,171),("over",405,178),("under",413,185),("level",421,190),("total",429,197),("fits",439,204),("check_plan",449,211),("lowest",457,216),("row_times",463,221),("row_plus",469,226),("take_step",478,233),("number_at",486,240),("fractions_of",492,245),("first_from",502,252),("go_on",511,259),("begin_row",523,266),("clear_column",535,273),("reduced",541,278),("width_of",550,285),("with_rights",556,290),("begins_of",562,295),("odd_row",572,302),("answer_of",584,309),("single_rows",590,314),("only_answer",601,321),("chosen_doors",609,326),("left_rows",622,333),("turned",628,338),("visits_from",634,343)]++dE P "LONGEST_WORD" 638 (.int 8 637)::dM P [("is_word",644,348),("check_head",654,355),("check_room_name",661,362),("check_chance",668,369),("check_pairs",674,374),("joined_ways",680,379),("Door",727,410),("Sure",754,431),("Mixed",781,450),("Toss",809,469),("Even",831,486),("check_share",840,495),("numbers_of",850,502),("numbered_ways",861,509),("offers_of",872,516),("Hall",946,571),("_law_cell",956,582),("_law_stream",968,589),("_law_gcd",978,596),("_law_ratio",987,603),("_law_is_ratio",995,610),("_law_are_ratios",1001,615),("_law_same",1009,622),("_law_names",1015,627),("_law_share",1024,634),("_law_pay",1033,641),("_law_door",1039,646),("_law_doors",1045,651),("_law_built",1051,656),("_law_hall",1057,661),("_law_chosen",1068,668),("_law_size",1076,675),("_law_came",1092,682),("_law_right",1106,689),("_law_odd",1114,696),("_law_spoilt",1128,703),("_law_refused",1138,710),("_law_strangers",1155,717),("law",1176,724)]++[]) 94)::(nat_lit 15,tE)::(nat_lit 17,tN 190 ["k"])::(nat_lit 18,tE)::(nat_lit 20,cU "_wall" 187 1 1 3 15 191)::(nat_lit 21,q21)::(nat_lit 22,q22)::(nat_lit 29,tE)::(nat_lit 30,q30 P)::(nat_lit 31,q31)::(nat_lit 32,(wG 209 31))::(nat_lit 35,(wT 31))::(nat_lit 42,tE)::(nat_lit 43,q43 P)::(nat_lit 44,q44)::(nat_lit 47,(wT 31))::(nat_lit 54,tE)::(nat_lit 55,q55 P)::(nat_lit 56,q56)::(nat_lit 59,(wT 31))::(nat_lit 66,tE)::(nat_lit 67,q67 P)::(nat_lit 68,q68)::(nat_lit 71,(wT 31))::(nat_lit 78,tE)::(nat_lit 79,q79 P)::(nat_lit 80,q80)::(nat_lit 83,(wT 31))::(nat_lit 90,tE)::(nat_lit 92,tN 293 dH)::(nat_lit 93,tE)::(nat_lit 95,q95)::(nat_lit 96,q96)::(nat_lit 97,tN 298 ["room"])::(nat_lit 98,q98 P)::(nat_lit 99,q99)::(nat_lit 102,(wT 31))::(nat_lit 109,tE)::(nat_lit 111,tN 318 dH)::(nat_lit 112,tE)::(nat_lit 114,aii)::(nat_lit 115,aju)::(nat_lit 116,tN 323 ["room"])::(nat_lit 117,ajv P)::(nat_lit 118,ahx)::(nat_lit 121,tE)::(nat_lit 123,tN 333 ["thing"])::(nat_lit 124,tE)::(nat_lit 126,cU "is_whole" 330 26 1 3 121 334)::(nat_lit 127,ahr)::(nat_lit 128,tE)::(nat_lit 130,akX)::(nat_lit 131,tE)::(nat_lit 133,cU "divisor" 337 28 2 3 128 345)::(nat_lit 134,akk)::(nat_lit 135,ah9)::(nat_lit 136,ahC)::(nat_lit 137,tE)::(nat_lit 139,tN 359 N7)::(nat_lit 140,tE)::(nat_lit 142,cU "ratio" 356 39 2 3 137 362)::(nat_lit 143,alc)::(nat_lit 144,tE)::(nat_lit 146,tN 368 zm)::(nat_lit 147,tE)::(nat_lit 149,cU "is_ratio" 365 48 1 3 144 371)::(nat_lit 150,ajq)::(nat_lit 151,tE)::(nat_lit 153,tN 377 cM)::(nat_lit 154,tE)::(nat_lit 156,cU "plus" 374 56 2 3 151 379)::(nat_lit 157,akI)::(nat_lit 158,tE)::(nat_lit 160,tN 385 cM)::(nat_lit 161,tE)::(nat_lit 163,cU "minus" 382 58 2 3 158 387)::(nat_lit 164,ahm)::(nat_lit 165,tE)::(nat_lit 167,tN 393 cM)::(nat_lit 168,tE)::(nat_lit 170,cU "times" 390 60 2 3 165 395)::(nat_lit 171,aiU)::(nat_lit 172,tE)::(nat_lit 174,tN 401 cM)::(nat_lit 175,tE)::(nat_lit 177,cU "over" 398 62 2 3 172 403)::(nat_lit 178,ahE)::(nat_lit 179,tE)::(nat_lit 181,tN 409 cM)::(nat_lit 182,tE)::(nat_lit 184,cU "under" 406 64 2 3 179 411)::(nat_lit 185,aiD)::(nat_lit 186,tE)::(nat_lit 189,cV "level" 416 67 1 3 186 419)::(nat_lit 190,alq)::(nat_lit 191,tE)::(nat_lit 193,tN 425 Ob)::(nat_lit 194,tE)::(nat_lit 196,cU "total" 422 72 1 3 191 427)::(nat_lit 197,ajx)::(nat_lit 198,tE)::(nat_lit 200,tN 435 U3)::(nat_lit 201,tE)::(nat_lit 203,cU "fits" 432 76 2 3 198 437)::(nat_lit 204,akP)::(nat_lit 205,tE)::(nat_lit 207,tN 443 su)::(nat_lit 208,tE)::(nat_lit 210,ajz)::(nat_lit 211,akE)::(nat_lit 212,tE)::(nat_lit 215,cV "lowest" 452 88 2 3 212 455)::(nat_lit 216,ahW)::(nat_lit 217,tE)::(nat_lit 220,aln)::(nat_lit 221,akj)::(nat_lit 222,tE)::(nat_lit 225,cV "row_plus" 464 95 3 3 222 467)::(nat_lit 226,aiY)::(nat_lit 227,tE)::(nat_lit 229,tN 473 vU)::(nat_lit 230,tE)::(nat_lit 232,ahD)::(nat_lit 233,ajd)::(nat_lit 234,tE)::(nat_lit 236,tN 482 xH)::(nat_lit 237,tE)::(nat_lit 239,ali)::(nat_lit 240,ai3)::(nat_lit 241,tE)::(nat_lit 244,ahI)::(nat_lit 245,aiM)::(nat_lit 246,tE)::(nat_lit 248,aik)::(nat_lit 249,tE)::(nat_lit 251,aiC)::(nat_lit 252,ajo)::(nat_lit 253,tE)::(nat_lit 255,tN 506 MF)::(nat_lit 256,tE)::(nat_lit 258,cU "go_on" 503 120 3 3 253 509)::(nat_lit 259,ak6)::(nat_lit 260,tE)::(nat_lit 262,ald)::(nat_lit 263,tE)::(nat_lit 265,ait)::(nat_lit 266,ah8)::(nat_lit 267,tE)::(nat_lit 269,ajy)::(nat_lit 270,tE)::(nat_lit 272,aja)::(nat_lit 273,ahz)::(nat_lit 274,tE)::(nat_lit 277,cV "reduced" 536 134 2 3 274 539)::(nat_lit 278,ahB)::(nat_lit 279,tE)::(nat_lit 281,tN 547 ["rows"])::(nat_lit 282,tE)::(nat_lit 284,ah0)::(nat_lit 285,ajk)::(nat_lit 286,tE)::(nat_lit 289,ahk)::(nat_lit 290,ale)::(nat_lit 291,tE)::(nat_lit 294,ajj)::(nat_lit 295,ah2)::(nat_lit 296,tE)::(nat_lit 298,tN 566 CV)::(nat_lit 299,tE)::(nat_lit 301,cU "odd_row" 563 159 3 3 296 570)::(nat_lit 302,ajL)::(nat_lit 303,tE)::(nat_lit 305,ak1)::(nat_lit 306,tE)::(nat_lit 308,ai6)::(nat_lit 309,aks)::(nat_lit 310,tE)::(nat_lit 313,ahu)::(nat_lit 314,alx)::(nat_lit 315,tE)::(nat_lit 317,ahT)::(nat_lit 318,tE)::(nat_lit 320,aly)::(nat_lit 321,ak0)::(nat_lit 322,tE)::(nat_lit 325,akh)::(nat_lit 326,alF)::(nat_lit 327,tE)::(nat_lit 329,ahX)::(nat_lit 330,tE)::(nat_lit 332,aj3)::(nat_lit 333,akY)::(nat_lit 334,tE)::(nat_lit 337,cV "turned" 623 188 1 3 334 626)::(nat_lit 338,ain)::(nat_lit 339,tE)::(nat_lit 342,alw)::(nat_lit 343,aix)::(nat_lit 344,tE)::(nat_lit 347,cV "is_word" 639 197 1 3 344 642)::(nat_lit 348,ah4)::(nat_lit 349,tE)::(nat_lit 351,tN 650 sI)::(nat_lit 352,tE)::(nat_lit 354,ahZ)::(nat_lit 355,ahL)::(nat_lit 356,tE)::(nat_lit 358,tN 658 ["room"])::(nat_lit 359,tE)::(nat_lit 361,akn)::(nat_lit 362,aie)::(nat_lit 363,tE)::(nat_lit 365,tN 665 ["chance"])::(nat_lit 366,tE)::(nat_lit 368,ajm)::(nat_lit 369,aiO)::(nat_lit 370,tE)::(nat_lit 373,aiQ)::(nat_lit 374,ajC)::(nat_lit 375,tE)::(nat_lit 378,aj0)::(nat_lit 379,ajb)::(nat_lit 387,tE)::(nat_lit 389,tN 696 vg)::(nat_lit 390,tE)::(nat_lit 392,ahM)::(nat_lit 393,akK)::(nat_lit 394,tE)::(nat_lit 396,tN 705 ["self"])::(nat_lit 397,tE)::(nat_lit 399,cO "ways" "Door.ways" 702 232 1 3 394 706)::(nat_lit 400,ahY)::(nat_lit 401,tE)::(nat_lit 403,tN 712 dH)::(nat_lit 404,tE)::(nat_lit 406,ajw)::(nat_lit 407,akA)::(nat_lit 408,tN 717 ["leads","name","pay"])::(nat_lit 409,akB P)::(nat_lit 410,ajh)::(nat_lit 411,ahV)::(nat_lit 412,(wG 723 410))::(nat_lit 415,(wT 410))::(nat_lit 422,tE)::(nat_lit 424,tN 743 vR)::(nat_lit 425,tE)::(nat_lit 427,ajD)::(nat_lit 428,ajZ)::(nat_lit 429,tN 750 ["leads"])::(nat_lit 430,aiV P)::(nat_lit 431,ahh)::(nat_lit 434,(wT 410))::(nat_lit 441,tE)::(nat_lit 443,tN 770 tR)::(nat_lit 444,tE)::(nat_lit 446,aj8)::(nat_lit 447,ajp)::(nat_lit 448,tN 777 ["leads"])::(nat_lit 449,ajI P)::(nat_lit 450,akW)::(nat_lit 453,(wT 450))::(nat_lit 460,tE)::(nat_lit 462,akf)::(nat_lit 463,tE)::(nat_lit 465,ahF)::(nat_lit 466,aic)::(nat_lit 467,tE)::(nat_lit 468,ahH P)::(nat_lit 469,ak4)::(nat_lit 472,(wT 450))::(nat_lit 479,tE)::(nat_lit 482,alj)::(nat_lit 483,akJ)::(nat_lit 484,tE)::(nat_lit 485,ais P)::(nat_lit 486,ahK)::(nat_lit 489,tE)::(nat_lit 491,tN 837 ["share"])::(nat_lit 492,tE)::(nat_lit 494,ajY)::(nat_lit 495,alg)::(nat_lit 496,tE)::(nat_lit 498,tN 844 tW)::(nat_lit 499,tE)::(nat_lit 501,ajN)::(nat_lit 502,aif)::(nat_lit 503,tE)::(nat_lit 505,ahO)::(nat_lit 506,tE)::(nat_lit 508,akq)::(nat_lit 509,akc)::(nat_lit 510,tE)::(nat_lit 512,ai9)::(nat_lit 513,tE)::(nat_lit 515,aiI)::(nat_lit 516,alG)::(nat_lit 524,tE)::(nat_lit 527,alk)::(nat_lit 528,ajg)::(nat_lit 529,tE)::(nat_lit 531,tN 894 ["self"])::(nat_lit 532,tE)::(nat_lit 534,cO "size" "Hall.size" 891 295 1 3 529 895)::(nat_lit 535,aiB)::(nat_lit 536,tE)::(nat_lit 538,tN 901 ["self"])::(nat_lit 539,tE)::(nat_lit 541,cO "names" "Hall.names" 898 298 1 3 536 902)::(nat_lit 542,akL)::(nat_lit 543,tE)::(nat_lit 545,tN 908 CG)::(nat_lit 546,tE)::(nat_lit 548,cO "place" "Hall.place" 905 301 2 3 543 910)::(nat_lit 549,aia)::(nat_lit 550,tE)::(nat_lit 552,tN 916 dH)::(nat_lit 553,tE)::(nat_lit 555,ajM)::(nat_lit 556,ahG)::(nat_lit 557,tE)::(nat_lit 559,tN 924 uR)::(nat_lit 560,tE)::(nat_lit 562,ajO)::(nat_lit 563,ajG)::(nat_lit 564,tE)::(nat_lit 567,aiW)::(nat_lit 568,ajB)::(nat_lit 569,tN 936 ["numbers","offered","share"])::(nat_lit 570,ahy P)::(nat_lit 571,aht)::(nat_lit 572,akT)::(nat_lit 573,(wG 942 571))::(nat_lit 576,tE)::(nat_lit 578,tN 952 Uy)::(nat_lit 579,tE)::(nat_lit 581,ai2)::(nat_lit 582,aku)::(nat_lit 583,tE)::(nat_lit 585,aiL)::(nat_lit 586,tE)::(nat_lit 588,aiN)::(nat_lit 589,akN)::(nat_lit 590,tE)::(nat_lit 592,aky)::(nat_lit 593,tE)::(nat_lit 595,akF)::(nat_lit 596,ak5)::(nat_lit 597,tE)::(nat_lit 599,aj4)::(nat_lit 600,tE)::(nat_lit 602,akb)::(nat_lit 603,akO)::(nat_lit 604,tE)::(nat_lit 606,tN 991 wQ)::(nat_lit 607,tE)::(nat_lit 609,akl)::(nat_lit 610,alE)::(nat_lit 611,tE)::(nat_lit 614,ajV)::(nat_lit 615,ajR)::(nat_lit 616,tE)::(nat_lit 618,tN 1005 xJ)::(nat_lit 619,tE)::(nat_lit 621,alr)::(nat_lit 622,ah6)::(nat_lit 623,tE)::(nat_lit 626,ajH)::(nat_lit 627,aj6)::(nat_lit 628,tE)::(nat_lit 630,ajl)::(nat_lit 631,tE)::(nat_lit 633,aje)::(nat_lit 634,ak7)::(nat_lit 635,tE)::(nat_lit 637,ake)::(nat_lit 638,tE)::(nat_lit 640,akm)::(nat_lit 641,ahp)::(nat_lit 642,tE)::(nat_lit 645,alD)::(nat_lit 646,alz)::(nat_lit 647,tE)::(nat_lit 650,akS)::(nat_lit 651,ajX)::(nat_lit 652,tE)::(nat_lit 655,ahS)::(nat_lit 656,aiZ)::(nat_lit 657,tE)::(nat_lit 660,ahn)::(nat_lit 661,ala)::(nat_lit 662,tE)::(nat_lit 664,aji)::(nat_lit 665,tE)::(nat_lit 667,air)::(nat_lit 668,ajn)::(nat_lit 669,tE)::(nat_lit 671,tN 1072 Tr)::(nat_lit 672,tE)::(nat_lit 674,ah7)::(nat_lit 675,ai5)::(nat_lit 676,tE)::(nat_lit 678,alf)::(nat_lit 679,tE)::(nat_lit 681,ai1)::(nat_lit 682,akp)::(nat_lit 683,tE)::(nat_lit 685,aj9)::(nat_lit 686,tE)::(nat_lit 688,als)::(nat_lit 689,alB)::(nat_lit 690,tE)::(nat_lit 692,tN 1110 dY)::(nat_lit 693,tE)::(nat_lit 695,akg)::(nat_lit 696,ahs)::(nat_lit 697,tE)::(nat_lit 699,ajt)::(nat_lit 700,tE)::(nat_lit 702,ak2)::(nat_lit 703,ah3)::(nat_lit 704,tE)::(nat_lit 706,aiS)::(nat_lit 707,tE)::(nat_lit 709,alu)::(nat_lit 710,akx)::(nat_lit 711,tE)::(nat_lit 713,tN 1142 En)::(nat_lit 714,tE)::(nat_lit 716,cU "_law_strangers" 1139 476 5 3 711 1153)::(nat_lit 717,fV "_law_strangers" 95 n6 716)::(nat_lit 718,tE)::(nat_lit 720,tN 1159 ["_law_script","_law_share_here","_law_many","_law_rooms","_law_hall_here","_law_plan","_law_xs","_law_starts","_law_handed","_law_other","_law_held","_law_found","_law_start","_law_own","_law_again"])::(nat_lit 721,tE)::(nat_lit 723,cU "law" 1156 485 1 3 718 1174)::(nat_lit 724,fV "law" 96 n6 723)::([] : List (Nat×Obj)))
abbrev asH:List Nat:=[2,3,15,17,18,20,21,22,29,30,31,32,35,42,43,44,47,54,55,56,59,66,67,68,71,78,79,80,83,90,92,93,95,96,97,98,99,102,109,111,112,114,115,116,117,118,121,123,124,126,127,128,130,131,133,134,135,136,137,139,140,142,143,144,146,147,149,150,151,153,154,156,157,158,160,161,163,164,165,167,168,170,171,172,174,175,177,178,179,181,182,184,185,186,189,190,191,193,194,196,197,198,200,201,203,204,205,207,208,210,211,212,215,216,217,220,221,222,225,226,227,229,230,232,233,234,236,237,239,240,241,244,245,246,248,249,251,252,253,255,256,258,259,260,262,263,265,266,267,269,270,272,273,274,277,278,279,281,282,284,285,286,289,290,291,294,295,296,298,299,301,302,303,305,306,308,309,310,313,314,315,317,318,320,321,322,325,326,327,329,330,332,333,334,337,338,339,342,343,344,347,348,349,351,352,354,355,356,358,359,361,362,363,365,366,368,369,370,373,374,375,378,379,387,389,390,392,393,394,396,397,399,400,401,403,404,406,407,408,409,410,411,412,415,422,424,425,427,428,429,430,431,434,441,443,444,446,447,448,449,450,453,460,462,463,465,466,467,468,469,472,479,482,483,484,485,486,489,491,492,494,495,496,498,499,501,502,503,505,506,508,509,510,512,513,515,516,524,527,528,529,531,532,534,535,536,538,539,541,542,543,545,546,548,549,550,552,553,555,556,557,559,560,562,563,564,567,568,569,570,571,572,573,576,578,579,581,582,583,585,586,588,589,590,592,593,595,596,597,599,600,602,603,604,606,607,609,610,611,614,615,616,618,619,621,622,623,626,627,628,630,631,633,634,635,637,638,640,641,642,645,646,647,650,651,652,655,656,657,660,661,662,664,665,667,668,669,671,672,674,675,676,678,679,681,682,683,685,686,688,689,690,692,693,695,696,697,699,700,702,703,704,706,707,709,710,711,713,714,716,717,718,720,721,723,724]
end
def qv:Program:=view p [0,2,3,4,5,6,7,8,10,11,13,14,15,16,17,18,19,20,21,23,24,26,27,29,30,31,32,33,34,35,36,37,38,39,41,42,43,44,45,46,47,49,50,51,52,54,55,57,58,59,60,61,62,63,64,65,66,68,69,70,71,72,74,75,76,77,78,79,80,81,82,83,84,85,86,87,88,89,90,91,92,93,94,95,96]
abbrev R:RowW:=PySem.Challenge.rw_chancehall_k23_visits.row.toRowW
def Xt(s:Shared):Bool:=xlAt qv [] s&&recOk R.records s
def e:Pos:=⟨485,0,506,118⟩
set_option maxHeartbeats 0
def lko:looksOpen PySem.Challenge.rw_chancehall_k23_visits.row.prog=true:=by kernel_rfl
def wsd:PySem.Challenge.rw_chancehall_k23_visits.wellSaid=true:=by
 unfold OpenLaw.wellSaid OpenRow.wellSaid OpenRow.partSaid;rw[lko]
 kernel_rfl
def asK:∀P,asH=(KH P).map (·.1):=λ_=>by kernel_rfl
def pre(w:World):(λos=>topGo treeTable p w 11 ann 12 (S0 w os) (topStub p))=λos=>some (Sa w os,⟨denote treeTable (cE p),cE p,z,B⟩):=by
 rw[Fast.te15667345088766844465,Fast.te14364793385576792824,Fast.te11892475500146522536];kernel_rfl
def block(w:World):(λos=>segRun treeTable p w 11 ann 1 1 (Sa w os) (blockOf (behindTheImports p) (env p) (cE p) z B))=λos=>some (.next,(Sb w os).abs,cE p,z):=by
 rw[Fast.te14374325043358763698,Fast.te14364793385576792824];kernel_rfl
def ajF(w:World):(λos=>segRunT treeTable p w 11 ann 1 30000 (Sb w os) (piecesOf ((behindTheImports p).take 95) (env p) (cE p) z B))=λos=>some (.next,S1 w os,cE p,e1):=by
 rw[Fast.te10110043849684766642,Fast.te14364793385576792824];kernel_rfl
def comb{R S A B C X Y Z:Type _}{o:Option R}{f:R->A}{g:R->B}{k:R->C}{h:R->Option S}{f1:S->X}{f2:S->Y}{f3:S->Z}{a:A}{b:B}{c:C}{x:X}{y:Y}{z:Z}(h1:(o.map λr=>(f r,g r,k r,(h r).map f1))=some (a,b,c,some x))(h2:(o.map λr=>(f r,g r,k r,(h r).map f2))=some (a,b,c,some y))(h3:(o.map λr=>(f r,g r,k r,(h r).map f3))=some (a,b,c,some z)):(o.map λr=>(f r,g r,k r,(h r).map λs=>(f1 s,f2 s,f3 s)))=some (a,b,c,some (x,y,z)):=by
 cases o with
 |none=>cases h1
 |some r =>
  simp only[Option.map_some,Option.some.injEq,Prod.mk.injEq]at h1 h2 h3 ⊢;obtain⟨a1,a2,a3,a4⟩:=h1;obtain⟨_,_,_,b4⟩:=h2;obtain⟨_,_,_,c4⟩:=h3;cases hr:h r with
  |none=>rw[hr]at a4;cases a4
  |some s =>
   rw[hr]at a4 b4 c4;refine⟨a1,a2,a3,?_⟩;simp only[Option.map_some,Option.some.injEq]at a4 b4 c4 ⊢;rw[a4,b4,c4]
def amt(w:World):(λos=>(segRunT treeTable p w 11 ann 1 50000 (S1 w os) (piecesOf ((behindTheImports p).drop 95) (env p) (cE p) e1 B)).map λr=>(r.1,r.2.2.1,r.2.2.2,(topRun treeTable p w 11 ann 2 r.2.1.abs ⟨doneF .next,cE p,e,B⟩).map λs=>openSeen qv [] (importedModules p.main.body) Xt true s))=λ_=>some (.next,cE p,e,some (openGood qv [])):=by
 rw[Fast.te10110043849684766642,Fast.te14364793385576792824,Fast.te14082659384304107361,Fast.te4187177175401517315,Fast.te5923862056798008813];kernel_rfl
def ame(w:World):(λos=>(segRunT treeTable p w 11 ann 1 50000 (S1 w os) (piecesOf ((behindTheImports p).drop 95) (env p) (cE p) e1 B)).map λr=>(r.1,r.2.2.1,r.2.2.2,(topRun treeTable p w 11 ann 2 r.2.1.abs ⟨doneF .next,cE p,e,B⟩).map λs=>staticsOk (importedModules p.main.body) (boot_heap w.params) s.heap&&namesBound p s.heap&&gensDone s&&laidKept (boot_heap w.params) s.heap))=λ_=>some (.next,cE p,e,some (true)):=by
 rw[Fast.te10110043849684766642,Fast.te14364793385576792824,Fast.te14082659384304107361];kernel_rfl
def alY(w:World):(λos=>(segRunT treeTable p w 11 ann 1 50000 (S1 w os) (piecesOf ((behindTheImports p).drop 95) (env p) (cE p) e1 B)).map λr=>(r.1,r.2.2.1,r.2.2.2,(topRun treeTable p w 11 ann 2 r.2.1.abs ⟨doneF .next,cE p,e,B⟩).map λs=>asH.map s.heap.get?))=λ_=>some (.next,cE p,e,some ((KH w.params).map λp=>some p.2)):=by
 rw[Fast.te10110043849684766642,Fast.te14364793385576792824,Fast.te14082659384304107361];kernel_rfl
def big(w:World):(λos=>(segRunT treeTable p w 11 ann 1 50000 (S1 w os) (piecesOf ((behindTheImports p).drop 95) (env p) (cE p) e1 B)).map λr=>(r.1,r.2.2.1,r.2.2.2,(topRun treeTable p w 11 ann 2 r.2.1.abs ⟨doneF .next,cE p,e,B⟩).map λs=>(staticsOk (importedModules p.main.body) (boot_heap w.params) s.heap&&namesBound p s.heap&&gensDone s&&laidKept (boot_heap w.params) s.heap,openSeen qv [] (importedModules p.main.body) Xt true s,asH.map s.heap.get?)))=λ_=>some (.next,cE p,e,some (true,openGood qv [],(KH w.params).map λp=>some p.2)):=funext λos=>comb (congrFun (ame w) os) (congrFun (amt w) os) (congrFun (alY w) os)
def left:LeftO p qv [] Xt (λs=>asH.map s.heap.get?) (λw=>(KH w.params).map λp=>some p.2) 200000 :=
 YB (boot_open rfl rfl λ_=>rfl) pre block (λw os=>nZ.cutAt (congrFun (ajF w) os) (nZ.last (congrFun (big w) os))) rfl
def hX(s:Shared)(h:Xt s=true):XL qv [] (s.heap.nsMap mainGlobals) s.heap:=xl_of s (Bool.and_eq_true_iff.mp h).1
def hR(s:Shared)(h:Xt s=true):RecFacts R.records s.heap:=recFacts_of (Bool.and_eq_true_iff.mp h).2
end H23
noncomputable section
namespace L2
open PySem PySem.Spec PyProof.Rows
abbrev Key:=Sum Int Str
def Az:Key->Value->Bool
 |.inl k,v=>Value.isInt k v
 |.inr x,v=>Value.isStrOf x v
def anq(w:World):Key->Int
 |.inl k=>hashInt k
 |.inr x=>hashStr w x
def gj:∀{k:Key}{v:Value},Az k v=true->(∃i t,k=Sum.inl i/\v=Value.int i t)\/(∃x t,k=Sum.inr x/\v=Value.str x t)
 |.inl i,v,h=>by
  obtain⟨t,e⟩:=Value.isInt_shape (k:=i) (v:=v) h;exact .inl ⟨i,t,rfl,e⟩
 |.inr x,v,h=>by
  obtain⟨t,e⟩:=Value.isStrOf_shape (x:=x) (v:=v) h;exact .inr ⟨x,t,rfl,e⟩
def X8(i:Int)(t:Tok):Az (.inl i) (.int i t)=true:=by simp[Az,Value.isInt]
def XF(x:Str)(t:Tok):Az (.inr x) (.str x t)=true:=by simp[Az,Value.isStrOf]
def ahc(a b:Int):decide ((Sum.inl a:Key)=Sum.inl b)=(a==b):=by
 by_cases e:a=b
 .subst e;simp
 .have h:¬(Sum.inl a:Key)=Sum.inl b:=λq=>e (Sum.inl.inj q);rw[Zp h];exact(beq_eq_false_iff_ne.mpr e).symm
def ae4(a b:Str):decide ((Sum.inr a:Key)=Sum.inr b)=decide (a=b):=by
 by_cases e:a=b
 .subst e;simp
 .have h:¬(Sum.inr a:Key)=Sum.inr b:=λq=>e (Sum.inr.inj q);rw[Zp h,Zp e]
def af0(a:Int)(b:Str):decide ((Sum.inl a:Key)=Sum.inr b)=false:=Zp (λq=>nomatch q)
def ae0(a:Str)(b:Int):decide ((Sum.inr a:Key)=Sum.inl b)=false:=Zp (λq=>nomatch q)
def jH(prog:Program)(w:World):PySem.KeyKind prog w Key where
 is:=Az
 hash:=anq w
 inj:=λv a b ha hb=>by
  rcases gj ha with⟨i,t,rfl,rfl⟩|⟨x,t,rfl,rfl⟩
  .rcases gj hb with⟨j,u,rfl,e⟩|⟨y,u,rfl,e⟩
   .injection e with e1 _;rw[e1]
   .exact nomatch e
  .rcases gj hb with⟨j,u,rfl,e⟩|⟨y,u,rfl,e⟩
   .exact nomatch e
   .injection e with e1 _;rw[e1]
 byValue:=λk v h=>by
  rcases gj h with⟨i,t,rfl,rfl⟩|⟨x,t,rfl,rfl⟩<;>rfl
 pyHash:=λhv h=>by
  rcases gj hv with⟨i,t,rfl,rfl⟩|⟨x,t,rfl,rfl⟩
  .exact wpAny_pyHash_int h
  .exact wpAny_pyHash_str h
 eqBool:=λhu hv h=>by
  rcases gj hu with⟨i,t,rfl,rfl⟩|⟨x,t,rfl,rfl⟩
  .rcases gj hv with⟨j,u,rfl,rfl⟩|⟨y,u,rfl,rfl⟩
   .rw[ahc]at h;exact wpAny_eqBool_int h
   .rw[af0]at h;exact SeqAt.EqAt.int_str i t y u _ _ _ _ h
  .rcases gj hv with⟨j,u,rfl,rfl⟩|⟨y,u,rfl,rfl⟩
   .rw[ae0]at h;exact SeqAt.EqAt.str_int x t j u _ _ _ _ h
   .rw[ae4]at h;exact wpAny_eqBool_str h
 «strs»:=λk x t v h=>by
  rcases gj h with⟨i,u,rfl,e⟩|⟨y,u,rfl,e⟩
  .exact nomatch e
  .injection e with e1 _;subst e1;cases v<;>rfl
def QH(prog:Program)(w:World)(i:Int)(t:Tok):(jH prog w).is (.inl i) (.int i t)=true:=X8 i t
def RJ(prog:Program)(w:World)(x:Str)(t:Tok):(jH prog w).is (.inr x) (.str x t)=true:=XF x t
inductive V where
 |non|bl (b:Bool)|int (i:Int)|str (x:Str)|byt (b:Array UInt8)|flt (b:UInt64)|ref (a:Addr)|ty (n:String)
 deriving DecidableEq
abbrev Ε:=List V
def RelV:V->Value->Prop
 |.non,u=>u=Value.none
 |.bl b,u=>u=Value.bool b
 |.int i,u=>∃t,u=Value.int i t
 |.str x,u=>∃t,u=Value.str x t
 |.byt b,u=>∃t,u=Value.bytes b t
 |.flt b,u=>∃t,u=Value.float b t
 |.ref a,u=>u=Value.ref a
 |.ty n,u=>u=Value.type n
abbrev Vals:Ε->Δ->Prop:=Paired RelV
def Vals.length{xs:Ε}{us:Δ}(r:Vals xs us):xs.length=us.length:=Paired.length r
theorem Vals.get:∀{xs:Ε}{us:Δ}{i:Nat}{x:V},Vals xs us->xs[i]?=some x->∃u,us[i]?=some u/\RelV x u
 |_,_,_,_,.nil,e=>by simp at e
 |_,_,0,_,.cons r _,e=>by simp at e;subst e;exact⟨_,rfl,r⟩
 |_,_,i+1,x,.cons _ t,e=>by
  obtain⟨u,h1,h2⟩:=Vals.get (i:=i) (x:=x) t (by simpa using e);exact⟨u,by simpa using h1,h2⟩
theorem Vals.set{x:V}{u:Value}(r:RelV x u):∀{xs:Ε}{us:Δ}(i:Nat),Vals xs us->Vals (xs.set i x) (us.set i u)
 |_,_,_,.nil=>.nil
 |_,_,0,.cons _ t=>.cons r t
 |_,_,i+1,.cons q t=>.cons q (Vals.set r i t)
theorem Vals.append:∀{xs ys:Ε}{us ws:Δ},Vals xs us->Vals ys ws->Vals (xs++ys) (us++ws)
 |_,_,_,_,.nil,s=>s
 |_,_,_,_,.cons r t,s=>.cons r (Vals.append t s)
theorem Vals.take:∀{xs:Ε}{us:Δ}(n:Nat),Vals xs us->Vals (xs.take n) (us.take n)
 |_,_,0,_=>.nil
 |_,_,_+1,.nil=>.nil
 |_,_,n+1,.cons r t=>.cons r (Vals.take n t)
theorem Vals.drop:∀{xs:Ε}{us:Δ}(n:Nat),Vals xs us->Vals (xs.drop n) (us.drop n)
 |_,_,0,r=>r
 |_,_,_+1,.nil=>.nil
 |_,_,n+1,.cons _ t=>Vals.drop n t
def xV:Option V->Ψ->Prop
 |some v,some u=>RelV v u
 |none,none=>True
 |_,_=>False
def KV{κ:Type} : List (κ×V)->List (κ×Value)->Prop:=Paired λ(p:κ×V)(q:κ×Value)=>p.1=q.1/\RelV p.2 q.2
def kV:Key->V
 |.inl i=>.int i
 |.inr x=>.str x
inductive HO where
  |lst (xs:Ε)
  |tup (xs:Ε)
  |dK (kvs:List (Key×V))
  |set (S:Int->Bool) (n:Nat)
  |ins (C dx:Addr) (fs:List (Str×V))
  |own (x:Addr)
  |xd (fs:List (Str×V))
  |met (f x:Addr)
  |rng (lo hi:Int)
  |frz (o:Obj) (u:HO)
  |tbl (ps:Array Value)
  |ext (φ:Heap->Prop)
abbrev Hp:=Addr->Option HO
def upd(H:Hp)(a:Addr)(o:HO):Hp:=λb=>if b=a then some o else H b
def bY{H:Hp}{a:Addr}{o:HO} : upd H a o a=some o:=by unfold upd;rw[ZY rfl]
def bO{H:Hp}{a b:Addr}{o:HO}(h:b≠a):upd H a o b=H b:=by unfold upd;rw[ZZ h]
def Hu{H:Hp}{a b:Addr}{o u:HO}(h:H a=some o)(h':H b=some u)(d:o≠u):a≠b:=by
 intro e;subst e;rw[h]at h';exact d (Option.some.inj h')
def kE{H:Hp}{a b:Addr}{o:HO}(h:H a=some o)(h':H b=none):a≠b:=by
 intro e;subst e;rw[h]at h';cases h'
section
variable(P:Program)(w:World)
def eX(H:Hp)(h:Heap)(a:Addr):HO->Prop
 |.lst xs=>xs.length<=sizeLine/\∃(its:Δ)(n:Nat),Vals xs its/\h.get? a=some { cls:=.type "list",data:=.seq its.toArray n }
 |.tup xs=>xs.length<=sizeLine/\∃its:Δ,Vals xs its/\IsTup h a its.toArray
 |.dK kvs=>kvs.length<=sizeLine/\(a==sysModules)=false/\∃vs,KV kvs vs/\h.DictOf (jH P w) a vs
 |.set S n=>h.SetOf (intKind P w) a S n
 |.ins C dx fs=>H dx=some (.own a)/\fs.length<=1000/\dx≠a/\h.get? a=some (instObj C dx) /\
   ∃mA,h.Ns1 dx mA/\(∀f,xV (fs.lookup f) (mA f))/\PySem.Within mA (fs.map (·.1))
 |.own _=>∃o,h.get? a=some o
 |.xd fs=>∃mA,h.Ns1 a mA/\∀f,xV (fs.lookup f) (mA f)
 |.rng lo hi=>∃t u v,h.get? a=some { cls:=.type "range",data:=.fields #[.int lo t,.int hi u,.int 1 v] }
 |.frz o u=>h.get? a=some o/\eX H h a u
 |.tbl ps=>h.get? a=some { cls:=.none,data:=.fields ps }
 |.met f x=>h.get? a=some (methodObj (.ref f) (.ref x))
 |.ext φ=>φ h/\(∃o,h.get? a=some o)/\∀h1 h2:Heap,φ h1->(∀o,h1.get? a=some o->h2.get? a=some o)->φ h2
def HOk(H:Hp)(h:Heap):Prop:=∀a o,H a=some o->eX P w H h a o
end
section
variable{P:Program}{w:World}{H H':Hp}{h h':Heap}{a:Addr}{o:HO}
def eX.lt(x:eX P w H h a o):a<h.objs.size:=by
 cases o with
 |lst xs=>obtain⟨_,_,_,_,e⟩:=x;exact aK e
 |tup xs=>obtain⟨_,_,_,p⟩:=x;exact p.lt
 |dK kvs=>obtain⟨_,_,_,_,o,_,_,e,_⟩:=x;exact aK e
 |set S n=>obtain⟨o,_,_,_,e,_⟩:=x;exact aK e
 |ins C dx fs=>obtain⟨_,_,_,e,_⟩:=x;exact aK e
 |own y=>obtain⟨_,e⟩:=x;exact aK e
 |xd fs=>obtain⟨_,⟨_,_,_,e,_⟩,_⟩:=x;exact aK e
 |rng lo hi=>obtain⟨_,_,_,e⟩:=x;exact aK e
 |frz ob u=>obtain⟨e,_⟩:=x;exact aK e
 |tbl ps=>exact aK (show h.get? a=some _ from x)
 |met f y=>exact aK (show h.get? a=some _ from x)
 |ext φ=>obtain⟨_,⟨_,e⟩,_⟩:=x;exact aK e
def eX.stay(x:eX P w H h a o)(k:∀b u,(b=a\/H b=some (.own a))->h.get? b=some u->h'.get? b=some u)
 (ho:∀b,H b=some (.own a)->H' b=some (.own a))(ht:∀b xs,H b=some (.tup xs)->H' b=some (.tup xs)):eX P w H' h' a o:=by
 induction o with
 |lst xs=>obtain⟨z,its,n,r,e⟩:=x;exact⟨z,its,n,r,k _ _ (.inl rfl) e⟩
 |tup xs=>obtain⟨z,its,r,ob,e,c⟩:=x;exact⟨z,its,r,ob,k _ _ (.inl rfl) e,c⟩
 |dK kvs=>obtain⟨z,y,vs,r,ob,es,ep,e,c⟩:=x;exact⟨z,y,vs,r,ob,es,ep,k _ _ (.inl rfl) e,c⟩
 |set S n=>obtain⟨ob,es,ep,t,e,c⟩:=x;exact⟨ob,es,ep,t,k _ _ (.inl rfl) e,c⟩
 |ins C dx fs =>
  obtain⟨d,z,ne,e,mA,⟨od,es,ep,e2,c⟩,r⟩:=x;exact⟨ho _ d,z,ne,k _ _ (.inl rfl) e,mA,⟨od,es,ep,k _ _ (.inr d) e2,c⟩,r⟩
 |own y=>obtain⟨ob,e⟩:=x;exact⟨ob,k _ _ (.inl rfl) e⟩
 |xd fs=>obtain⟨mA,⟨od,es,ep,e,c⟩,r⟩:=x;exact⟨mA,⟨od,es,ep,k _ _ (.inl rfl) e,c⟩,r⟩
 |rng lo hi=>obtain⟨t,u,v,e⟩:=x;exact⟨t,u,v,k _ _ (.inl rfl) e⟩
 |frz ob u ih=>obtain⟨e,q⟩:=x;exact⟨k _ _ (.inl rfl) e,ih q⟩
 |tbl ps =>
  have e:h.get? a=some { cls:=.none,data:=.fields ps }:=x;show h'.get? a=some { cls:=.none,data:=.fields ps };exact k a _ (.inl rfl) e
 |met f y =>
  have e:h.get? a=some (methodObj (.ref f) (.ref y)):=x;show h'.get? a=some (methodObj (.ref f) (.ref y));exact k a _ (.inl rfl) e
 |ext φ=>obtain⟨p,⟨o,e⟩,st⟩:=x;exact⟨st _ _ p λo q=>k _ _ (.inl rfl) q,⟨o,k _ _ (.inl rfl) e⟩,st⟩
def HOk.lt(x:HOk P w H h)(e:H a=some o):a<h.objs.size:=(x a o e).lt
def HOk.fresh(x:HOk P w H h)(e:h.objs.size<=a):H a=none:=by
 cases q:H a with
 |none=>rfl
 |some u=>exact absurd (aR (x.lt q) e) (X2 _)
def HOk.kept(x:HOk P w H h)(k:∀b u,h.get? b=some u->h'.get? b=some u):HOk P w H h':=λa o e =>
 (x a o e).stay (λb u _ q=>k b u q) (λ_ q=>q) λ_ _ q=>q
def HOk.laid(x:HOk P w H h)(k:∀b u,h.get? b=some u->h'.get? b=some u)(hp:h.objs.size<=a)(new:eX P w (upd H a o) h' a o):HOk P w (upd H a o) h':=λb u e=>by
 have hn:=x.fresh hp;by_cases hb:b=a
 .subst hb;rw[bY]at e;cases e;exact new
 .rw[bO hb]at e;exact(x b u e).stay (λc v _ q=>k c v q) (λc q=>by rw[bO (kE q hn)];exact q) λc xs q=>by rw[bO (kE q hn)];exact q
end
def Rd(H:Hp)(a:Addr)(u:HO):Prop:=H a=some u\/∃o,H a=some (.frz o u)
def Rd.of{H:Hp}{a:Addr}{u:HO}(h:H a=some u):Rd H a u:=.inl h
def Rd.ok{P:Program}{w:World}{H:Hp}{h:Heap}{a:Addr}{u:HO}(r:Rd H a u)(x:HOk P w H h):eX P w H h a u:=by
 rcases r with r|⟨o,r⟩
 .exact x a u r
 .obtain⟨_,q⟩:=x a _ r;exact q
def Mut:Option HO->Prop
 |some (.lst _)=>True
 |some (.dK _)=>True
 |some (.set _ _)=>True
 |some (.ins _ _ _)=>True
 |some (.ext _)=>True
 |_=>False
section
variable{P:Program}{w:World}{H:Hp}{h h':Heap}{x e:Addr}{o':HO}
def HOk.write(ok:HOk P w H h)(mu:Mut (H x))(he:e=x\/H e=some (.own x))(k:∀b u,b≠e->h.get? b=some u->h'.get? b=some u)(i9:∃u,h'.get? e=some u)
 (new:eX P w (upd H x o') h' x o'):HOk P w (upd H x o') h':=λb u q=>by
 have j':∀c y,H c=some (.own y)->c≠x:=λc y r z=>by subst z;rw[r]at mu;exact mu
 have mB:∀c xs,H c=some (.tup xs)->c≠x:=λc xs r z=>by subst z;rw[r]at mu;exact mu
 by_cases hb:b=x
 .subst hb;rw[bY]at q;cases q;exact new
 .rw[bO hb]at q;by_cases hbe:b=e
  .have q':H b=some (.own x):=by
    rcases he with z|z
    .exact absurd (hbe.trans z) hb
    .rw[hbe];exact z
   rw[q]at q';cases q';obtain⟨v,hv⟩:=i9;exact⟨v,by rw[hbe];exact hv⟩
  .refine(ok b u q).stay (λc v hc r=>k c v ?_ r) (λc r=>by rw[bO (j' c b r)];exact r) λc xs r=>by rw[bO (mB c xs r)];exact r
   rcases hc with rfl|hc
   .exact hbe
   .rintro rfl;rcases he with z|z
    .exact j' c b hc z
    .rw[hc]at z;cases z;exact hb rfl
end
structure Un(fs ex:Φ)(H H':Hp)(h h':Heap):Prop where
 keep:∀b o,h.get? b=some o->H b=none->b∉fs->b∉ex->h'.get? b=some o
 slot:∀b o,h.get? b=some o->H b=none->b∈fs->b∉ex->∃sl,h'.get? b=some { o with slots:=sl }
 free:∀b o,h.get? b=some o->H b=none->b∉ex->H' b=none
 there:∀b o,h.get? b=some o->b∉ex->∃o',h'.get? b=some o'
 tups:∀b xs,H b=some (.tup xs)->H' b=some (.tup xs)
 frzs:∀b o u,H b=some (.frz o u)->H' b=some (.frz o u)
 tbls:∀b ps,H b=some (.tbl ps)->∃more,H' b=some (.tbl (ps++more))
section
variable{fs fs' ex ex':Φ}{H H1 H2:Hp}{h h1 h2 h':Heap}{a x e:Addr}{o:HO}
def Un.any(u:Un fs ex H H1 h h1){b:Addr}{ob:Obj}(q:h.get? b=some ob)(n:H b=none)(hx:b∉ex):∃sl,h1.get? b=some { ob with slots:=sl }:=by
 by_cases hb:b∈fs
 .exact u.slot b ob q n hb hx
 .exact⟨ob.slots,u.keep b ob q n hb hx⟩
def Un.kept(k:∀b u,h.get? b=some u->h'.get? b=some u):Un fs ex H H h h' :=
 ⟨λb ob q _ _ _=>k b ob q,λb ob q _ _ _=>⟨ob.slots,k b ob q⟩,λ_ _ _ n _=>n,λb ob q _=>⟨ob,k b ob q⟩,λ_ _ q=>q,λ_ _ _ q=>q,λ_ ps q=>⟨#[],by rw[q];simp⟩⟩
def Un.refl:Un fs ex H H h h:=Un.kept λ_ _ q=>q
def Un.laid(k:∀b u,h.get? b=some u->h'.get? b=some u)(hp:h.objs.size<=a)(hn:H a=none):Un fs ex H (upd H a o) h h' where
 keep:=λb u q _ _ _=>k b u q
 slot:=λb u q _ _ _=>⟨u.slots,k b u q⟩
 free:=λb u q n _=>by rw[bO (aQ (aR (aK q) hp))];exact n
 there:=λb u q _=>⟨u,k b u q⟩
 tups:=λb xs q=>by rw[bO (kE q hn)];exact q
 frzs:=λb u xs q=>by rw[bO (kE q hn)];exact q
 tbls:=λb ps q=>⟨#[],by rw[bO (kE q hn),q];simp⟩
def Un.write(mu:Mut (H x))(he:e=x\/H e=some (.own x))(k:∀b u,b≠e->h.get? b=some u->h'.get? b=some u)(i9:∃u,h'.get? e=some u):Un fs ex H (upd H x o) h h':=by
 have hx:∀b,H b=none->b≠x:=λb n z=>by subst z;rw[n]at mu;exact mu
 have hb:∀b,H b=none->b≠e:=λb n z=>by
  subst z;rcases he with r|r
  .exact hx b n r
  .rw[n]at r;cases r
 have hm:∀b u,H b=some u->¬Mut (some u)->b≠x:=λb u q nm z=>by subst z;rw[q]at mu;exact nm mu
 refine⟨λb u q n _ _=>k b u (hb b n) q,λb u q n _ _=>⟨u.slots,k b u (hb b n) q⟩,λb u q n _=>by rw[bO (hx b n)];exact n,λb u q _=>?_,
  λb xs q=>by rw[bO (hm b _ q λz=>z)];exact q,λb u xs q=>by rw[bO (hm b _ q λz=>z)];exact q,λb ps q=>⟨#[],by rw[bO (hm b _ q λz=>z),q];simp⟩⟩
 by_cases hbe:b=e
 .subst hbe;exact i9
 .exact⟨u,k b u hbe q⟩
end
def trk(h:Heap)(H:Hp):Φ:=(List.range h.objs.size).filter λa=>(H a).isSome
def Mz(h:Heap)(H:Hp):Heap:=hideAll h (trk h H)
def Yd(h:Heap)(H:Hp):(Mz h H).objs.size=h.objs.size:=PySem.W.hideAll_size _ _
def aai{h:Heap}{H:Hp}{b:Addr}{o:Obj}(e:h.get? b=some o)(n:H b=none):(Mz h H).get? b=some o :=
 hideAll_get _ e λhm=>by
  have q:(H b).isSome=true:=(List.mem_filter.mp hm).2;rw[n]at q;simp at q
def acU{h:Heap}{H:Hp}{b:Addr}{o:Obj}(e:(Mz h H).get? b=some o):h.get? b=some o/\H b=none:=by
 have e':h.get? b=some o:=of_hideAll (trk h H) e;refine⟨e',?_⟩;cases q:H b with
 |none=>rfl
 |some x =>
  have hm:b∈trk h H:=List.mem_filter.mpr ⟨List.mem_range.mpr (aK e'),by simp[q]⟩;have z:(Mz h H).get? b=none:=PySem.W.hideAll_none (trk h H) hm;rw[z]at e;cases e
def aea(g h:Heap)(L:Addr):Γ:=(List.range h.objs.size).filterMap λa=>if a=L\/(g.get? a).isSome=true then none else(h.get? a).map λo=>(a,o)
def rest(g h:Heap)(L d:Addr):Γ:=(aea g h L).filter λp=>decide (p.1≠d)
structure Mod(K:Frag)(mg:Str->Ψ)(base:Heap):Prop where
 kin:K.In base
 glob:base.Ns mainGlobals mg
 blt:∃mb,base.Ns builtinsNs mb/\∀x:Str,x≠"__name__"->mb x=bootBuiltins x
 nolimit:base.NoLimit
structure Cx where
 prog:Program
 w:World
 K:Frag
 mg:Str->Ψ
 base:Heap
 A:Around
 N:Θ
 s₀:Shared
 H₀:Hp
 env:Env
 outer:List Env
 stack:List Env
 ex:Φ
 fn:Str->Bool
 calm:Bool
 pn:Γ
 xe:Β
def frs(l:List Env):Φ:=l.filterMap (·.frame)
abbrev Cx.fs(X:Cx):Φ:=frs X.outer
def Vis(sc:Scope)(x:Str):Prop:=sc.names.lookup x=some .local\/sc.names.lookup x=some .cell\/sc.names.lookup x=some .free
def Loc(sc:Scope)(x:Str):Prop:=sc.names.lookup x=some .local\/sc.names.lookup x=some .cell
def Look(env:Env)(h:Heap)(m:Str->Ψ)(x:Str)(u:Value):Prop :=
 (env.kindOf x=some .local/\m x=some u)\/((env.kindOf x=some .cell\/env.kindOf x=some .free)/\∃c,env.cells.lookup x=some c/\h.IsCell c (some u))
structure Cx.Ok(X:Cx):Prop where
 mod:Mod X.K X.mg X.base
 kind:X.env.scope.kind=.function
 glob:X.env.globals=mainGlobals
 blt:X.env.builtins=builtinsNs
 above:X.s₀.heap.objs.size<=X.env.locals
 inj:∀x y c,X.env.cells.lookup x=some c->X.env.cells.lookup y=some c->x=y
 has:∀x,(X.env.kindOf x=some .cell\/X.env.kindOf x=some .free)->∃c,X.env.cells.lookup x=some c
 cab:∀x c,X.fn x=true->X.env.cells.lookup x=some c->X.s₀.heap.objs.size<=c
 hd:X.calm=true->X.A.handled=none
 frames:X.A.frames=some X.stack
 stk:X.stack=X.outer\/(X.stack=X.env::X.outer/\X.env.frame=some X.env.locals)
 exf:∀b∈X.ex,b≠X.env.locals/\∀x c,X.env.cells.lookup x=some c->c≠b
 bs:∀b o,X.base.get? b=some o->X.s₀.heap.get? b=some o/\X.H₀ b=none
 bsz:X.base.objs.size<=X.s₀.heap.objs.size
 noex:∀b o,X.base.get? b=some o->b∉X.ex
 exfs:∀b∈X.ex,b∉X.fs
 funs:X.s₀.heap.FunFrames X.base X.outer
 frf:∀b∈X.fs,X.H₀ b=none
structure Inv(X:Cx)(aa:Γ)(σ:List (Option V))(H:Hp)(s:Shared):Prop where
 ok:X.Ok
 os:s.os=X.s₀.os
 bare:AllBare s.gens
 base:Un X.fs X.ex X.H₀ H X.s₀.heap s.heap
 loc:∃m,s.heap.Ns X.env.locals m/\∀(i:Nat)(x:Str)(v:V),X.N[i]?=some x->σ[i]?=some (some v)->Vis X.env.scope x->∃u,RelV v u/\Look X.env s.heap m x u
 cell:∀x c,X.env.cells.lookup x=some c->∃v,s.heap.IsCell c v
 free:H X.env.locals=none
 freeC:∀x c,X.env.cells.lookup x=some c->H c=none
 pin:∀p∈X.pn++aa,s.heap.get? p.1=some p.2/\H p.1=none/\p.1≠X.env.locals/\p.1∉X.fs/\∀v,p.2.data≠.cell v
 hok:HOk X.prog X.w H s.heap
 len:σ.length=X.N.length
section
variable{X:Cx}{aa:Γ}{σ:List (Option V)}{H H':Hp}{s:Shared}{h':Heap}
def Cx.Ok.nofr(ok:X.Ok){b:Addr}{o:Obj}(e:X.base.get? b=some o):b∉X.fs:=λhb=>by
 have:=(ok.funs.mem hb).1;rw[e]at this;cases this
def Inv.bs(I:Inv X aa σ H s):∀b o,X.base.get? b=some o->s.heap.get? b=some o/\H b=none:=λb o e =>
 ⟨I.base.keep b o (I.ok.bs b o e).1 (I.ok.bs b o e).2 (I.ok.nofr e) (I.ok.noex b o e),I.base.free b o (I.ok.bs b o e).1 (I.ok.bs b o e).2 (I.ok.noex b o e)⟩
def Inv.bk(I:Inv X aa σ H s):∀b o,X.base.get? b=some o->s.heap.get? b=some o:=λb o e=>(I.bs b o e).1
def Inv.mod(I:Inv X aa σ H s):Mod X.K X.mg X.base:=I.ok.mod
def Inv.kIn(I:Inv X aa σ H s):X.K.In s.heap:=I.ok.mod.kin.keeps I.bk
def Inv.fr(I:Inv X aa σ H s):∃m,Fr X.base X.env.locals s.heap m :=
 let⟨m,hn,_⟩:=I.loc
 ⟨m,hn,I.bk,aL I.ok.bsz I.ok.above⟩
def Inv.lt(I:Inv X aa σ H s):X.env.locals<s.heap.objs.size:=by obtain⟨_,hn,_⟩:=I.loc;exact hn.lt
def Inv.sz(I:Inv X aa σ H s):X.s₀.heap.objs.size<=s.heap.objs.size:=aL I.ok.above (Y2 I.lt)
def Inv.nofs(I:Inv X aa σ H s){a:Addr}(h:s.heap.objs.size<=a):a∉X.fs:=λhb=>by
 obtain⟨_,o,ho,_⟩:=I.ok.funs.mem hb;exact absurd (aR (aK ho) (aL I.sz h)) (X2 _)
def Inv.cne(I:Inv X aa σ H s):∀x c,X.env.cells.lookup x=some c->c≠X.env.locals:=λx c e z=>by
 obtain⟨v,o,ho,hd⟩:=I.cell x c e;obtain⟨m,⟨o',es,ep,df,br,_⟩,_⟩:=I.loc;rw[z,df]at ho;cases ho;rw[br]at hd;cases hd
def Inv.funs(I:Inv X aa σ H s):s.heap.FunFrames X.base X.outer:=by
 have all:∀(l:List Env),(∀b∈frs l,b∈X.fs)->X.s₀.heap.FunFrames X.base l->s.heap.FunFrames X.base l:=by
  intro l
  induction l with
  |nil=>intro _ _;trivial
  |cons env r ih =>
   intro hs hl;obtain⟨hk,⟨L,o,hf,hn,ho,hd⟩,hr⟩:=hl;have hL:L∈X.fs:=hs L (by unfold frs;rw[Zxs,hf];exact aO);obtain⟨sl,e⟩:=I.base.slot L o ho (I.ok.frf L hL) hL λz=>I.ok.exfs L z hL;exact⟨hk,⟨L,_,hf,hn,e,hd⟩,ih (λb hb=>hs b (by unfold frs;rw[Zxs,hf];exact aJ _ hb)) hr⟩
 exact all X.outer (λ_ hb=>hb) I.ok.funs
def Inv.stack(I:Inv X aa σ H s):s.heap.FunFrames X.base X.stack:=by
 rcases I.ok.stk with e|⟨e,hf⟩
 .rw[e];exact I.funs
 .rw[e];obtain⟨m,hn,_⟩:=I.loc;refine .cons (by rw[I.ok.kind];decide) hf hn ?_ I.funs;exact Heap.get?_none_of_le (aL I.ok.bsz I.ok.above)
def Inv.stkSub(I:Inv X aa σ H s):∀b∈frs X.stack,b∈X.env.locals::X.fs:=λb hb=>by
 rcases I.ok.stk with e|⟨e,hf⟩
 .rw[e]at hb;exact aJ _ hb
 .rw[e]at hb;unfold frs at hb;rw[Zxs,hf]at hb;exact hb
def Inv.stkFree(I:Inv X aa σ H s):∀b∈frs X.stack,H b=none:=λb hb=>by
 rcases YU.mp (I.stkSub b hb)with e|hb
 .rw[e];exact I.free
 .obtain⟨_,o,ho,_⟩:=I.ok.funs.mem hb;exact I.base.free b o ho (I.ok.frf b hb) λz=>I.ok.exfs b z hb
def Inv.step{g':Array GenState}{t':Nat}{d':Drawn}{ch:Φ}(I:Inv X aa σ H s)
 (f6:∀b∈ch,(b∈X.ex\/X.s₀.heap.objs.size<=b)/\b≠X.env.locals/\(∀x c,X.env.cells.lookup x=some c->c≠b)/\∀p∈X.pn++aa,p.1≠b)
 (keep:∀b o,b≠X.env.locals->b∉X.fs->b∉ch->s.heap.get? b=some o->H b=none->h'.get? b=some o)
 (slot:∀b o,b≠X.env.locals->b∈X.fs->b∉ch->s.heap.get? b=some o->H b=none->∃sl,h'.get? b=some { o with slots:=sl })(free:∀b o,b∉ch->s.heap.get? b=some o->H b=none->H' b=none)
 (there:∀b o,b∉ch->s.heap.get? b=some o->∃o',h'.get? b=some o')
 (tups:∀b xs,H b=some (.tup xs)->H' b=some (.tup xs))(frzs:∀b o u,H b=some (.frz o u)->H' b=some (.frz o u))(tbls:∀b ps,H b=some (.tbl ps)->∃more,H' b=some (.tbl (ps++more)))
 (ns:∀m,s.heap.Ns X.env.locals m->h'.Ns X.env.locals m)(hok:HOk X.prog X.w H' h')(hg:AllBare g') :
  Inv X aa σ H' { s with heap:=h',gens:=g',drawn:=d',toks:=t' }:=by
 have neL:∀b o,X.s₀.heap.get? b=some o->b≠X.env.locals:=λb o e=>aQ (aR (aK e) I.ok.above);have kU:∀b o,X.s₀.heap.get? b=some o->b∉X.ex->b∉ch:=λb o e hx hb=>by
  rcases(f6 b hb).1 with z|z
  .exact hx z
  .exact absurd (aR (aK e) z) (X2 _)
 have hG:∀x c,X.env.cells.lookup x=some c->∀v,s.heap.IsCell c v->h'.IsCell c v:=λx c e v hP=>by
  obtain⟨o,ho,hd⟩:=hP;have kf:c∉ch:=λz=>(f6 c z).2.2.1 x c e rfl;by_cases hc:c∈X.fs
  .obtain⟨sl,q⟩:=slot c o (I.cne x c e) hc kf ho (I.freeC x c e);exact⟨_,q,hd⟩
  .exact⟨o,keep c o (I.cne x c e) hc kf ho (I.freeC x c e),hd⟩
 refine⟨I.ok,I.os,hg,⟨λb o e n hb hx=>?_,λb o e n hb hx=>?_,λb o e n hx=>?_,λb o e hx=>?_,λb xs e=>tups b xs (I.base.tups b xs e),λb o xs e=>frzs b o xs (I.base.frzs b o xs e),λb ps e=>?_⟩,?_,λx c e=>?_,?_,λx c e=>?_,λp hp=>?_,hok,I.len⟩
 .exact keep b o (neL b o e) hb (kU b o e hx) (I.base.keep b o e n hb hx) (I.base.free b o e n hx)
 .obtain⟨sl,e1⟩:=I.base.slot b o e n hb hx;obtain⟨jI,e2⟩:=slot b _ (neL b o e) hb (kU b o e hx) e1 (I.base.free b o e n hx);exact⟨jI,e2⟩
 .obtain⟨o',e1⟩:=I.base.there b o e hx;exact free b o' (kU b o e hx) e1 (I.base.free b o e n hx)
 .obtain⟨o',e1⟩:=I.base.there b o e hx;exact there b o' (kU b o e hx) e1
 .obtain⟨m1,e1⟩:=I.base.tbls b ps e;obtain⟨m2,e2⟩:=tbls b _ e1;exact⟨m1++m2,by rw[e2,Array.append_assoc]⟩
 .obtain⟨m,hn,hl⟩:=I.loc;refine⟨m,ns m hn,λi x v e1 e2 e3=>?_⟩;obtain⟨u,r,l⟩:=hl i x v e1 e2 e3;refine⟨u,r,?_⟩;rcases l with l|⟨k,c,e,z⟩
  .exact .inl l
  .exact .inr ⟨k,c,e,hG x c e _ z⟩
 .obtain⟨v,z⟩:=I.cell x c e;exact⟨v,hG x c e v z⟩
 .obtain⟨m,⟨o,_,_,ho,_⟩,_⟩:=I.loc;exact free _ o (λz=>(f6 _ z).2.1 rfl) ho I.free
 .obtain⟨v,o,ho,hd⟩:=I.cell x c e;exact free c o (λz=>(f6 c z).2.2.1 x c e rfl) ho (I.freeC x c e)
 .obtain⟨e,n,ne,nf,d⟩:=I.pin p hp;have kf:p.1∉ch:=λz=>(f6 p.1 z).2.2.2 p hp rfl;exact⟨keep p.1 p.2 ne nf kf e n,free p.1 p.2 kf e n,ne,nf,d⟩
def Inv.un{t':Nat}(I:Inv X aa σ H s)(u:Un X.fs [] H H' s.heap h')(hok:HOk X.prog X.w H' h'):Inv X aa σ H' { s with heap:=h',toks:=t' }:=by
 obtain⟨m,⟨o,es,ep,ho,r⟩,_⟩:=id I.loc;obtain⟨sl,hL⟩:=u.any ho I.free (by simp);exact I.step (g':=s.gens) (d':=s.drawn) (ch:=[]) (λ_ z=>nomatch z) (λb o _ hb _ e n=>u.keep b o e n hb (by simp)) (λb o _ hb _ e n=>u.slot b o e n hb (by simp)) (λb o _ e n=>u.free b o e n (by simp)) (λb o _ e=>u.there b o e (by simp)) u.tups u.frzs u.tbls (λm' hm=>by
  obtain⟨o',qB,qE,df,r'⟩:=hm;rw[ho]at df;cases df;exact⟨_,qB,qE,hL,r'⟩) hok I.bare
def Inv.call{g':Array GenState}{t':Nat}{d':Drawn}{ch:Φ}(I:Inv X aa σ H s)(u:Un (frs X.stack) ch H H' s.heap h')(hok:HOk X.prog X.w H' h')(hg:AllBare g')
 (f6:∀b∈ch,(b∈X.ex\/X.s₀.heap.objs.size<=b)/\b≠X.env.locals/\(∀x c,X.env.cells.lookup x=some c->c≠b)/\∀p∈X.pn++aa,p.1≠b) :
  Inv X aa σ H' { s with heap:=h',gens:=g',drawn:=d',toks:=t' }:=by
 obtain⟨m,⟨o,es,ep,ho,r⟩,_⟩:=id I.loc;obtain⟨sl,hL⟩:=u.any ho I.free λz=>(f6 _ z).2.1 rfl;exact I.step (ch:=ch) f6 (λb o hL hb hc e n=>u.keep b o e n (λz=>(YU.mp (I.stkSub b z)).elim hL hb) hc) (λb o _ _ hc e n=>u.any e n hc) (λb o hc e n=>u.free b o e n hc) (λb o hc e=>u.there b o e hc) u.tups u.frzs u.tbls (λm' hm=>by
  obtain⟨o',qB,qE,df,r'⟩:=hm;rw[ho]at df;cases df;exact⟨_,qB,qE,hL,r'⟩) hok hg
def Inv.turned{t':Nat}{it:Addr}(I:Inv X aa σ H s)(k:∀b o,b≠it->s.heap.get? b=some o->h'.get? b=some o)(hn:H it=none)(hL:it≠X.env.locals)
 (h1:it∈X.ex\/X.s₀.heap.objs.size<=it)(h2:∀x c,X.env.cells.lookup x=some c->c≠it)(h3:∀p∈X.pn++aa,p.1≠it):Inv X aa σ H { s with heap:=h',toks:=t' }:=by
 have ke:∀b u,H b=some u->b≠it:=λb u e z=>by rw[z,hn]at e;cases e
 refine I.step (g':=s.gens) (d':=s.drawn) (ch:=[it]) (λb hb=>?_) (λb o _ _ hc e _=>k b o (λz=>hc (by simp[z])) e) (λb o _ _ hc e _=>⟨o.slots,k b o (λz=>hc (by simp[z])) e⟩) (λ_ _ _ _ n=>n)
  (λb o hc e=>⟨o,k b o (λz=>hc (by simp[z])) e⟩) (λ_ _ e=>e) (λ_ _ _ e=>e) (λb ps e=>⟨#[],by rw[e];simp⟩) (λm hm=>?_) (λb u e=>?_) I.bare
 .have e:b=it:=by simpa using hb
  subst e;exact⟨h1,hL,h2,h3⟩
 .obtain⟨o,es,ep,ho,r⟩:=hm;exact⟨o,es,ep,k _ o (Ne.symm hL) ho,r⟩
 .refine(I.hok b u e).stay (λc v hc q=>k c v ?_ q) (λ_ q=>q) λ_ _ q=>q;rcases hc with z|z
  .rw[z];exact ke b u e
  .exact ke c _ z
def Inv.tok(I:Inv X aa σ H s)(t:Nat):Inv X aa σ H { s with toks:=t }:=I.un (h':=s.heap) (t':=t) Un.refl I.hok
def Inv.kept{t':Nat}(I:Inv X aa σ H s)(k:∀b u,s.heap.get? b=some u->h'.get? b=some u):Inv X aa σ H { s with heap:=h',toks:=t' }:=I.un (Un.kept k) (I.hok.kept k)
def Inv.laid{a:Addr}{o:HO}{t':Nat}(I:Inv X aa σ H s)(k:∀b u,s.heap.get? b=some u->h'.get? b=some u)(hp:s.heap.objs.size<=a)(new:eX X.prog X.w (upd H a o) h' a o) :
  Inv X aa σ (upd H a o) { s with heap:=h',toks:=t' }:=I.un (Un.laid k hp (I.hok.fresh hp)) (I.hok.laid k hp new)
def Inv.write{x e:Addr}{o:HO}{t':Nat}(I:Inv X aa σ H s)(mu:Mut (H x))(he:e=x\/H e=some (.own x))(k:∀b u,b≠e->s.heap.get? b=some u->h'.get? b=some u)(i9:∃u,h'.get? e=some u)
 (new:eX X.prog X.w (upd H x o) h' x o):Inv X aa σ (upd H x o) { s with heap:=h',toks:=t' }:=I.un (Un.write mu he k i9) (I.hok.write mu he k i9 new)
def Inv.pins_of{dq:Γ}(I:Inv X aa σ H s)(h:∀p∈dq,s.heap.get? p.1=some p.2/\H p.1=none/\p.1≠X.env.locals/\p.1∉X.fs/\∀v,p.2.data≠.cell v):Inv X dq σ H s :=
 ⟨I.ok,I.os,I.bare,I.base,I.loc,I.cell,I.free,I.freeC,λp hp=>(Y1.mp hp).elim (λz=>I.pin p (TR _ z)) (h p),I.hok,I.len⟩
def Ij{N:Θ}(hN:N.Nodup){i j:Nat}{x:Str}(a:N[i]?=some x)(b:N[j]?=some x):i=j:=by
 obtain⟨h1,e1⟩:=ao.mp a;obtain⟨h2,e2⟩:=ao.mp b;exact(List.getElem_inj hN).mp (e1.trans e2.symm)
abbrev zd(X:Cx)(a:Str):Prop:=X.fn a=true\/X.env.scope.names.lookup a=some .local
def Xe{M:Model}{A:Around}{E:Β}{i:Nat}{x:Str}{v:V}{u:Value}{Q:Unit->Shared->Prop}(I:Inv X aa σ H s)(hN:X.N.Nodup)(hi:X.N[i]?=some x)(hx:Loc X.env.scope x)(r:RelV v u)
 (h:∀s',Inv X aa (σ.set i (some v)) H s'->(∃a,Heap.SameBut a s.heap s'.heap/\(a=X.env.locals\/X.env.cells.lookup x=some a))->Q () s')(hf:zd X x):wpAny M A (storeName X.env x u) Q E s:=by
 obtain⟨m,hn,hl⟩:=id I.loc;have dL:(X.env.scope.kind == .class || (X.env.scope.kind == .module&&X.env.locals != X.env.globals))=false:=by rw[I.ok.kind];rfl
 have lh:i<σ.length:=by rw[I.len];exact(ao.mp hi).1
 have cne:=I.cne;have dP:∀{a:Addr}{h':Heap},(∃o,s.heap.get? a=some o/\H a=none)->Heap.SameBut a s.heap h'->HOk X.prog X.w H h':=λ{a h'}ha hs b ob e=>by
  obtain⟨_,_,ce⟩:=ha;refine(I.hok b ob e).stay (λc w' hc q=>(hs.2 c ?_).trans q) (λ_ q=>q) λ_ _ q=>q;rintro rfl;rcases hc with rfl|hc
  .rw[ce]at e;cases e
  .rw[ce]at hc;cases hc
 rcases hx with hk|hk
 .refine wpAny_storeName_local hk hn (λh' oj hs=>?_) dL;obtain⟨oL,_,_,hoL,_⟩:=id hn;refine h _ ⟨I.ok,I.os,I.bare,⟨λb o e n hb hx=>?_,λb o e n hb hx=>?_,I.base.free,λb o e hx=>?_,I.base.tups,I.base.frzs,I.base.tbls⟩,⟨_,oj,λj y v' e1 e2 e3=>?_⟩,λy c e=>?_,I.free,I.freeC,λp hp=>?_,dP ⟨oL,hoL,I.free⟩ hs,by simpa using I.len⟩ ⟨_,hs,.inl rfl⟩
  .exact(hs.2 b (aQ (aR (aK e) I.ok.above))).trans (I.base.keep b o e n hb hx)
  .obtain⟨sl,e1⟩:=I.base.slot b o e n hb hx;exact⟨sl,(hs.2 b (aQ (aR (aK e) I.ok.above))).trans e1⟩
  .obtain⟨o',e1⟩:=I.base.there b o e hx;exact⟨o',(hs.2 b (aQ (aR (aK e) I.ok.above))).trans e1⟩
  .by_cases hj:j=i
   .subst hj;rw[hi]at e1;cases e1;rw[VT lh]at e2;cases e2;exact⟨u,r,.inl ⟨hk,by simp⟩⟩
   .rw[VY (Ne.symm hj)]at e2;obtain⟨u',r',q⟩:=hl j y v' e1 e2 e3;refine⟨u',r',?_⟩;rcases q with⟨k,e⟩|⟨k,c,e,z⟩
    .refine .inl ⟨k,?_⟩;have:y≠x:=λe=>hj (Ij hN e1 (e ▸ hi));simp[this,e]
    .exact .inr ⟨k,c,e,z.sameBut hs (cne y c e)⟩
  .obtain⟨w',z⟩:=I.cell y c e;exact⟨w',z.sameBut hs (cne y c e)⟩
  .obtain⟨e,n,ne,nf,d⟩:=I.pin p hp;exact⟨(hs.2 p.1 ne).trans e,n,ne,nf,d⟩
 .have kD:X.fn x=true:=by
   rcases hf with z|z
   .exact z
   .rw[z]at hk;cases hk
  obtain⟨c,hc⟩:=I.ok.has x (.inl hk);obtain⟨w',z⟩:=I.cell x c hc;refine wpAny_storeName_cell I.ok.kind hk hc z (λh' cm hs=>?_);obtain⟨oc,hoc,nX⟩:=id z;refine h { s with heap:=h' } ⟨I.ok,I.os,I.bare,⟨λb o e n hb hx=>?_,λb o e n hb hx=>?_,I.base.free,λb o e hx=>?_,I.base.tups,I.base.frzs,I.base.tbls⟩,⟨m,hn.sameBut hs (Ne.symm (cne x c hc)),λj y v' e1 e2 e3=>?_⟩,λy c' e=>?_,I.free,I.freeC,λp hp=>?_,dP ⟨oc,hoc,I.freeC x c hc⟩ hs,by simpa using I.len⟩ ⟨c,hs,.inr hc⟩
  .exact(hs.2 b (aQ (aR (aK e) (I.ok.cab x c kD hc)))).trans (I.base.keep b o e n hb hx)
  .obtain⟨sl,e1⟩:=I.base.slot b o e n hb hx;exact⟨sl,(hs.2 b (aQ (aR (aK e) (I.ok.cab x c kD hc)))).trans e1⟩
  .obtain⟨o',e1⟩:=I.base.there b o e hx;exact⟨o',(hs.2 b (aQ (aR (aK e) (I.ok.cab x c kD hc)))).trans e1⟩
  .by_cases hj:j=i
   .subst hj;rw[hi]at e1;cases e1;rw[VT lh]at e2;cases e2;exact⟨u,r,.inr ⟨.inl hk,c,hc,cm⟩⟩
   .rw[VY (Ne.symm hj)]at e2;obtain⟨u',r',q⟩:=hl j y v' e1 e2 e3;refine⟨u',r',?_⟩;rcases q with q|⟨k,c',e,z'⟩
    .exact .inl q
    .refine .inr ⟨k,c',e,z'.sameBut hs ?_⟩;rintro rfl;exact hj (Ij hN e1 (I.ok.inj _ _ _ e hc ▸ hi))
  .by_cases lI:c'=c
   .subst lI;exact⟨_,cm⟩
   .obtain⟨w2,z2⟩:=I.cell y c' e;exact⟨w2,z2.sameBut hs lI⟩
  .obtain⟨e,n,ne,nf,d⟩:=I.pin p hp;refine⟨(hs.2 p.1 ?_).trans e,n,ne,nf,d⟩;intro q;rw[q,hoc]at e;have q':oc=p.2:=Option.some.inj e;exact d w' (by rw[<- q'];exact nX)
def qZ{M:Model}{A:Around}{E:Β}{i:Nat}{x:Str}{v:V}{u:Value}{Q:Unit->Shared->Prop}(I:Inv X aa σ H s)(hN:X.N.Nodup)(hi:X.N[i]?=some x)(hx:Loc X.env.scope x)(r:RelV v u)
 (h:∀s',Inv X aa (σ.set i (some v)) H s'->Q () s')(hf:zd X x:=by first|exact .inl rfl|exact .inr rfl|assumption):wpAny M A (storeName X.env x u) Q E s :=
 Xe I hN hi hx r (λs' I' _=>h s' I') hf
def Inv.call'{s':Shared}{ch:Φ}(I:Inv X aa σ H s)(ho:s'.os=s.os)(u:Un (frs X.stack) ch H H' s.heap s'.heap)(hok:HOk X.prog X.w H' s'.heap)(hg:AllBare s'.gens)
 (f6:∀b∈ch,(b∈X.ex\/X.s₀.heap.objs.size<=b)/\b≠X.env.locals/\(∀x c,X.env.cells.lookup x=some c->c≠b)/\∀p∈X.pn++aa,p.1≠b):Inv X aa σ H' s':=by
 obtain⟨h',g',d',t',o'⟩:=s';have e:o'=s.os:=ho;subst e;exact I.call (g':=g') (t':=t') (d':=d') u hok hg f6
end
abbrev XK:=Value->Ω->Hp->Prop
abbrev St:=List (Option V)
abbrev VK:=V->Hp->Prop
abbrev TE:=St->Hp->VK->Prop
abbrev TT:=St->Hp->(Bool->Hp->Prop)->Prop
abbrev TA:=St->Hp->(Ε->Hp->Prop)->Prop
structure Ends where
 nx:St->Hp->Prop
 rt:VK
 bk:St->Hp->Prop:=λ_ _=>False
 ct:St->Hp->Prop:=λ_ _=>False
abbrev TS:=Ends->St->Hp->Prop
def EP(X:Cx)(aa:Γ)(σ:St)(Q:VK)(u:Value)(s':Shared):Prop:=∃v H',Inv X aa σ H' s'/\RelV v u/\Q v H'
def TP(X:Cx)(aa:Γ)(σ:St)(Q:Bool->Hp->Prop)(b:Bool)(s':Shared):Prop:=∃H',Inv X aa σ H' s'/\Q b H'
def AP(X:Cx)(aa:Γ)(σ:St)(Q:Ε->Hp->Prop)(us:Δ)(s':Shared):Prop:=∃vs H',Inv X aa σ H' s'/\Vals vs us/\Q vs H'
def SP(X:Cx)(aa:Γ)(D:Ends)(f:Flow)(s':Shared):Prop :=
 match f with
 |.next=>∃σ' H',Inv X aa σ' H' s'/\D.nx σ' H'
 |.brk=>∃σ' H',Inv X aa σ' H' s'/\D.bk σ' H'
 |.cont=>∃σ' H',Inv X aa σ' H' s'/\D.ct σ' H'
 |.ret u=>∃v σ' H',Inv X aa σ' H' s'/\RelV v u/\D.rt v H'
def PE(X:Cx)(e:Expr)(t:TE):Prop :=
 ∀(aa:Γ)(s:Shared)(σ:St)(H:Hp)(Q:VK),Inv X aa σ H s->t σ H Q->wpAny (model X.prog X.w) X.A (eval e X.env) (EP X aa σ Q) X.xe s
def PT(X:Cx)(e:Expr)(t:TT):Prop :=
 ∀(aa:Γ)(s:Shared)(σ:St)(H:Hp)(Q:Bool->Hp->Prop),Inv X aa σ H s->t σ H Q->wpAny (model X.prog X.w) X.A (isTrue e X.env (eval e X.env)) (TP X aa σ Q) X.xe s
def PW(X:Cx)(e:Expr)(t:TT):Prop :=
 ∀(b7:Sem Value)(aa:Γ)(s:Shared)(σ:St)(H:Hp)(Q:Bool->Hp->Prop),Inv X aa σ H s->t σ H Q->wpAny (model X.prog X.w) X.A (isTrue e X.env b7) (TP X aa σ Q) X.xe s
def PW.pt{X:Cx}{e:Expr}{t:TT}(h:PW X e t):PT X e t:=h _
def PA(X:Cx)(es:List Expr)(t:TA):Prop :=
 ∀(pos:Pos)(aa:Γ)(s:Shared)(σ:St)(H:Hp)(Q:Ε->Hp->Prop),Inv X aa σ H s->t σ H Q->wpAny (model X.prog X.w) X.A (spliced (backTo pos (starEach es X.env))) (AP X aa σ Q) X.xe s
def PS(X:Cx)(st:Stmt)(t:TS):Prop :=
 ∀(aa:Γ)(s:Shared)(σ:St)(H:Hp)(D:Ends),Inv X aa σ H s->t D σ H->wpAny (model X.prog X.w) X.A (exec st X.env) (SP X aa D) X.xe s
def PSs(X:Cx)(st:List Stmt)(t:TS):Prop :=
 ∀(aa:Γ)(s:Shared)(σ:St)(H:Hp)(D:Ends),Inv X aa σ H s->t D σ H->wpAny (model X.prog X.w) X.A (execs st X.env) (SP X aa D) X.xe s
def thn{α:Type}{t:Sem α}{Q Q':α->Shared->Prop}{M:Model}{A:Around}{E:Β}{s:Shared}(h:wpAny M A t Q E s)(hQ:∀a s,Q a s->Q' a s):wpAny M A t Q' E s:=wpAny_mono h hQ λ_ _ x=>x
section
variable{X:Cx}
def aj2(i:Nat):TE:=λσ H Q=>∃v,σ[i]?=some (some v)/\Q v H
def tC(v:V):TE:=λ_ H Q=>Q v H
abbrev zk(a:Str):Prop:=(a==("__debug__":Str))=false
abbrev zw(a:Str):Prop:=(a==("__classdict__":Str))=false
def ae7{i:Nat}{x:Str}{pos:Pos}(hN:X.N[i]?=some x)(hv:Vis X.env.scope x)(hd:zk x:=by decide)(a8:zw x:=by decide):PE X (.Name x pos) (aj2 i):=by
 intro aa s σ H Q I h;obtain⟨v,e,h⟩:=h;obtain⟨m,hn,hl⟩:=I.loc;obtain⟨u,r,l⟩:=hl i x v hN e hv;have aS:EP X aa σ Q u s:=⟨v,H,I,r,h⟩;rcases l with⟨hk,hm⟩|⟨hk,c,hc,c6⟩
 .exact wpAny_Name (wpAny_loadName_local I.ok.kind hk hn hm aS) hd
 .rcases hk with hk|hk
  .exact wpAny_Name (wpAny_loadName_cell I.ok.kind hk hc c6 aS) hd
  .exact wpAny_Name (wpAny_loadName_free I.ok.kind hk hc c6 aS a8) hd
def Tf{i j pos} : PE X (.Constant (.int i) j pos) (tC (.int i)):=λ_ _ _ H _ I h=>wpAny_Constant_int ⟨.int i,H,I.tok _,⟨_,rfl⟩,h⟩
def aen{b j pos} : PE X (.Constant (.bool b) j pos) (tC (.bl b)):=λ_ _ _ H _ I h=>Constant_bool ⟨.bl b,H,I,rfl,h⟩
def Y6{j pos} : PE X (.Constant .none j pos) (tC .non):=λ_ _ _ H _ I h=>Constant_none ⟨.non,H,I,rfl,h⟩
def Dp{x j pos} : PE X (.Constant (.str x) j pos) (tC (.str x)):=λ_ _ _ H _ I h=>Calls.Constant_str ⟨.str x,H,I.tok _,⟨_,rfl⟩,h⟩
def Gl(X:Cx)(x:Str):Prop:=X.env.kindOf x=some .globalImplicit
def ou{E:Β}{aa:Γ}{s:Shared}{σ:St}{H:Hp}{x:Str}{u:Value}{pos:Pos}{Q:Β}(I:Inv X aa σ H s)(hg:Gl X x)(hm:X.mg x=some u)(h:Q u s)
 (hd:zk x:=by decide):wpAny (model X.prog X.w) X.A (eval (.Name x pos) X.env) Q E s :=
 Calls.Name_function_global I.ok.kind hg (Calls.loadGlobal_global (by rw[I.ok.glob];exact I.mod.glob.keeps I.bk) hm h) hd
def xg{E:Β}{aa:Γ}{s:Shared}{σ:St}{H:Hp}{x:Str}{u:Value}{pos:Pos}{Q:Β}(I:Inv X aa σ H s)(hg:Gl X x)(hm:X.mg x=none)(hv:bootBuiltins x=some u)(h:Q u s)
 (hn:x≠"__name__":=by decide)(hd:zk x:=by decide):wpAny (model X.prog X.w) X.A (eval (.Name x pos) X.env) Q E s:=by
 obtain⟨mb,h1,h2⟩:=I.mod.blt;exact Calls.Name_function_global I.ok.kind hg (Calls.loadGlobal_builtin (by rw[I.ok.glob];exact I.mod.glob.keeps I.bk) hm (by rw[I.ok.blt];exact h1.keeps I.bk) ((h2 x hn).trans hv) h) hd
def Vq{x:Str}{v:V}{u:Value}{pos:Pos}(hg:Gl X x)(hm:X.mg x=some u)(r:RelV v u)(hd:zk x:=by decide):PE X (.Name x pos) (tC v) :=
 λ_ _ _ H _ I h=>ou I hg hm ⟨v,H,I,r,h⟩ hd
def acz{x:Str}{v:V}{u:Value}{pos:Pos}(hg:Gl X x)(hm:X.mg x=none)(hv:bootBuiltins x=some u)(r:RelV v u)(hn:x≠"__name__":=by decide)(hd:zk x:=by decide):PE X (.Name x pos) (tC v) :=
 λ_ _ _ H _ I h=>xg I hg hm hv ⟨v,H,I,r,h⟩ hn hd
variable{a b:Expr}{ta tb:TE}{pos:Pos}
def PC(X:Cx)(op:CmpOp)(a b:Expr)(t:TE):Prop :=
 ∀(aa:Γ)(s:Shared)(σ:St)(H:Hp)(Q:VK),Inv X aa σ H s->t σ H Q ->
  wpAny (model X.prog X.w) X.A (eval a X.env) (λv s₁=>wpAny (model X.prog X.w) X.A (eval b X.env) (λu s₂=>wpAny (model X.prog X.w) X.A (compareOp op v u) (EP X aa σ Q) X.xe s₂) X.xe s₁) X.xe s
def tB(t:TE):TT:=λσ H Q=>t σ H λx H1=>∃c,x=.bl c/\Q c H1
def abL{op:CmpOp}{t:TE}(h:PC X op a b t)(h1:behindInMarks op b=false:=by rfl):PT X (.Compare a [op] [b] pos) (tB t):=by
 intro aa s σ H Q I hw;refine wpAny_isTrue_Compare1 (thn (h aa s σ H _ I hw) λv s1 h1=>thn h1 λu s2 h2=>thn h2 λc s3 hP=>?_) h1;obtain⟨x,H1,I1,r1,q1⟩:=hP;obtain⟨d,rfl,q⟩:=q1;cases r1;exact wpAny_truthy_bool ⟨H1,I1,q⟩
variable{tA kR:TT}{rest:List Expr}
def ank(t u:TT):TT:=λσ H Q=>t σ H λc H1=>if c=true then u σ H1 Q else Q false H1
def tOr(t u:TT):TT:=λσ H Q=>t σ H λc H1=>if c=true then Q true H1 else u σ H1 Q
def amu(t:TT):TT:=λσ H Q=>t σ H λc H1=>Q (!c) H1
def pw_and1(ha:PT X a tA):PW X (.BoolOp .And [a] pos) tA:=by
 intro wh aa s σ H Q I h;refine isTrue_and (thn (ha aa s σ H Q I h) λc s1 e=>?_);cases c with
 |true=>exact isTrue_and_nil e
 |false=>exact e
def pw_or1(ha:PT X a tA):PW X (.BoolOp .Or [a] pos) tA:=by
 intro wh aa s σ H Q I h;refine isTrue_or (thn (ha aa s σ H Q I h) λc s1 e=>?_);cases c with
 |false=>exact isTrue_or_nil e
 |true=>exact e
def pw_and(ha:PT X a tA)(hb:PW X (.BoolOp .And (b::rest) pos) kR):PW X (.BoolOp .And (a::b::rest) pos) (ank tA kR):=by
 intro wh aa s σ H Q I h;refine isTrue_and (thn (ha aa s σ H _ I h) λc s1 hP=>?_);obtain⟨H1,I1,q1⟩:=hP;cases c with
 |true=>exact hb wh aa s1 σ H1 Q I1 q1
 |false=>exact⟨H1,I1,q1⟩
def pw_or(ha:PT X a tA)(hb:PW X (.BoolOp .Or (b::rest) pos) kR):PW X (.BoolOp .Or (a::b::rest) pos) (tOr tA kR):=by
 intro wh aa s σ H Q I h;refine isTrue_or (thn (ha aa s σ H _ I h) λc s1 hP=>?_);obtain⟨H1,I1,q1⟩:=hP;cases c with
 |true=>exact⟨H1,I1,q1⟩
 |false=>exact hb wh aa s1 σ H1 Q I1 q1
def Y4(ha:PT X a tA):PT X (.UnaryOp .Not a pos) (amu tA):=by
 intro aa s σ H Q I h;exact isTrue_not (ha aa s σ H (λc H1=>Q (!c) H1) I h)
def aiJ(ta tb:TE):TE:=λσ H Q=>ta σ H λx H1=>∃c,x=.bl c/\if c=true then tb σ H1 Q else Q (.bl false) H1
def alo(ta:TE):TE:=λσ H Q=>ta σ H λx H1=>∃c,x=.bl c/\Q (.bl (!c)) H1
def afl{op}{t:TE}(h:PE X a t):PE X (.BoolOp op [a] pos) t:=λaa s σ H Q I hw=>BoolOp_one (h aa s σ H Q I hw)
def afR(ha:PE X a ta)(hb:PE X (.BoolOp .And (b::rest) pos) tb):PE X (.BoolOp .And (a::b::rest) pos) (aiJ ta tb):=by
 intro aa s σ H Q I h;refine BoolOp_and (thn (ha aa s σ H _ I h) λv s1 hP=>?_);obtain⟨x,H1,I1,r1,q1⟩:=hP;obtain⟨c,rfl,q1⟩:=q1;cases r1;refine wpAny_truthy_bool ?_;cases c with
 |true=>exact hb aa s1 σ H1 Q I1 q1
 |false=>exact⟨.bl false,H1,I1,rfl,q1⟩
def afQ(ha:PE X a ta):PE X (.UnaryOp .Not a pos) (alo ta):=by
 intro aa s σ H Q I h;refine UnaryOp_ (thn (ha aa s σ H _ I h) λv s1 hP=>?_);obtain⟨x,H1,I1,r1,q1⟩:=hP;obtain⟨c,rfl,q1⟩:=q1;cases r1;exact not_of (wpAny_truthy_bool ⟨.bl (!c),H1,I1,rfl,q1⟩)
def tIf(t:TT)(ta tb:TE):TE:=λσ H Q=>t σ H λc H1=>if c=true then ta σ H1 Q else tb σ H1 Q
def aam{c:Expr}(hc:PT X c tA)(ha:PE X a ta)(hb:PE X b tb):PE X (.IfExp c a b pos) (tIf tA ta tb):=by
 intro aa s σ H Q I h;refine wpAny_IfExp (thn (hc aa s σ H _ I h) λd s1 hP=>?_);obtain⟨H1,I1,q1⟩:=hP;cases d with
 |true=>exact ha aa s1 σ H1 Q I1 q1
 |false=>exact hb aa s1 σ H1 Q I1 q1
end
def SqL(K:Frag)(H:Hp)(a:Addr)(xs:Ε):Prop :=
 Rd H a (.lst xs) \/
  ∃(o:Obj)(its:Array Value)(n:Nat),K.lookup a=some o/\o.cls=.type "list"/\o.dict=none/\o.data=.seq its n/\its.size<=sizeLine/\Vals xs its.toList
def SqT(K:Frag)(H:Hp)(a:Addr)(xs:Ε):Prop :=
 Rd H a (.tup xs) \/
  ∃(o:Obj)(its:Array Value)(n:Nat),K.lookup a=some o/\o.cls=.type "tuple"/\o.data=.seq its n/\its.size<=sizeLine/\Vals xs its.toList
def ano:Value->Option V
 |.none=>some .non
 |.bool b=>some (.bl b)
 |.int i _=>some (.int i)
 |.str x _=>some (.str x)
 |.bytes b _=>some (.byt b)
 |.float b _=>some (.flt b)
 |.ref a=>some (.ref a)
 |.type n=>some (.ty n)
 |_=>none
def RelV.abs{x:V}{u:Value}(r:RelV x u):ano u=some x:=by
 cases x with
 |non=>cases r;rfl
 |bl _=>cases r;rfl
 |int _=>obtain⟨t,rfl⟩:=r;rfl
 |str _=>obtain⟨t,rfl⟩:=r;rfl
 |byt _=>obtain⟨t,rfl⟩:=r;rfl
 |flt _=>obtain⟨t,rfl⟩:=r;rfl
 |ref _=>cases r;rfl
 |ty _=>cases r;rfl
def RelV.inj{x y:V}{u:Value}(r:RelV x u)(q:RelV y u):x=y:=Option.some.inj (r.abs.symm.trans q.abs)
theorem Vals.inj:∀{xs ys:Ε}{us:Δ},Vals xs us->Vals ys us->xs=ys
 |_,_,_,.nil,.nil=>rfl
 |_,_,_,.cons r t,.cons r' t'=>by rw[r.inj r',Vals.inj t t']
section
variable{X:Cx}{aa:Γ}{σ:St}{H:Hp}{s:Shared}{a:Addr}{xs ys:Ε}
def SqL.of{K:Frag}(h:H a=some (.lst xs)):SqL K H a xs:=.inl (.inl h)
def SqT.of{K:Frag}(h:H a=some (.tup xs)):SqT K H a xs:=.inl (.inl h)
def Inv.list(I:Inv X aa σ H s)(h:SqL X.K H a xs):∃its:Δ,Vals xs its/\PlainL s.heap a its.toArray/\xs.length<=sizeLine:=by
 rcases h with h|⟨o,its,n,hk,hc,hd,hs,hz,r⟩
 .obtain⟨z,its,n,r,e⟩:=h.ok I.hok;exact⟨its,r,⟨_,n,e,rfl,rfl,rfl⟩,z⟩
 .refine⟨its.toList,r,⟨o,n,I.kIn a o hk,hc,hd,by simpa using hs⟩,?_⟩;have e:=r.length;simp only[Array.length_toList]at e;exact aL (WG e) hz
def Inv.tuple(I:Inv X aa σ H s)(h:SqT X.K H a xs):∃its:Δ,Vals xs its/\IsTup s.heap a its.toArray/\xs.length<=sizeLine:=by
 rcases h with h|⟨o,its,n,hk,hc,hs,hz,r⟩
 .obtain⟨z,its,r,p⟩:=h.ok I.hok;exact⟨its,r,p,z⟩
 .refine⟨its.toList,r,⟨o,I.kIn a o hk,hc,n,by simpa using hs⟩,?_⟩;have e:=r.length;simp only[Array.length_toList]at e;exact aL (WG e) hz
def Inv.list_inj(I:Inv X aa σ H s)(h:SqL X.K H a xs)(h':SqL X.K H a ys):xs=ys:=by
 obtain⟨its,r,⟨o,n,e,_,_,d⟩,_⟩:=I.list h;obtain⟨its',r',⟨o',n',e',_,_,d'⟩,_⟩:=I.list h';rw[e]at e';cases e';rw[d]at d';injection d' with d1 _;have:its=its':=by simpa using ZH Array.toList d1
 subst this;exact r.inj r'
def Inv.tuple_inj(I:Inv X aa σ H s)(h:SqT X.K H a xs)(h':SqT X.K H a ys):xs=ys:=by
 obtain⟨its,r,⟨o,e,_,n,d⟩,_⟩:=I.tuple h;obtain⟨its',r',⟨o',e',_,n',d'⟩,_⟩:=I.tuple h';rw[e]at e';cases e';rw[d]at d';injection d' with d1 _;have:its=its':=by simpa using ZH Array.toList d1
 subst this;exact r.inj r'
end
abbrev Cx.wish(X:Cx)(E:Β):Cx:={ X with xe:=E }
abbrev Cx.nox(X:Cx):Cx:=X.wish λ_ _=>False
def Cx.Ok.wish{X:Cx}(ok:X.Ok)(E:Β):(X.wish E).Ok :=
 ⟨ok.mod,ok.kind,ok.glob,ok.blt,ok.above,ok.inj,ok.has,ok.cab,ok.hd,ok.frames,ok.stk,ok.exf,ok.bs,ok.bsz,ok.noex,ok.exfs,ok.funs,ok.frf⟩
def Cx.Ok.unwish{X:Cx}{E:Β}(ok:(X.wish E).Ok):X.Ok :=
 ⟨ok.mod,ok.kind,ok.glob,ok.blt,ok.above,ok.inj,ok.has,ok.cab,ok.hd,ok.frames,ok.stk,ok.exf,ok.bs,ok.bsz,ok.noex,ok.exfs,ok.funs,ok.frf⟩
section
variable{X:Cx}{aa:Γ}{σ:St}{H:Hp}{s:Shared}{E:Β}
def Inv.wish(I:Inv X aa σ H s)(E:Β):Inv (X.wish E) aa σ H s:=⟨I.ok.wish E,I.os,I.bare,I.base,I.loc,I.cell,I.free,I.freeC,I.pin,I.hok,I.len⟩
def Inv.unwish(I:Inv (X.wish E) aa σ H s):Inv X aa σ H s:=⟨I.ok.unwish,I.os,I.bare,I.base,I.loc,I.cell,I.free,I.freeC,I.pin,I.hok,I.len⟩
def SP.unwish{D:Ends}{f:Flow}{s':Shared}(h:SP (X.wish E) aa D f s'):SP X aa D f s':=by
 cases f with
 |next=>obtain⟨σ',H',I,q⟩:=h;exact⟨σ',H',I.unwish,q⟩
 |brk=>obtain⟨σ',H',I,q⟩:=h;exact⟨σ',H',I.unwish,q⟩
 |cont=>obtain⟨σ',H',I,q⟩:=h;exact⟨σ',H',I.unwish,q⟩
 |ret u=>obtain⟨v,σ',H',I,r,q⟩:=h;exact⟨v,σ',H',I.unwish,r,q⟩
def PSs.nox{st:List Stmt}{t:TS}(h:PSs X.nox st t):PSs X st t:=λaa s σ H D I hw =>
 wpAny_mono (h aa s σ H D (I.wish _) hw) (λ_ _ q=>q.unwish) λ_ _ z=>False.elim z
end
section
variable{X:Cx}{st:Stmt}{rest:List Stmt}{t u:TS}{e:Expr}{te:TE}{pos:Pos}
def ahj:TS:=λD σ H=>D.nx σ H
def Xi(t u:TS):TS:=λD σ H=>t { D with nx:=u D } σ H
def VD:PSs X [] ahj:=λ_ _ σ H _ I h=>wpAny_execs_nil ⟨σ,H,I,h⟩
def wN(h1:PS X st t)(h2:PSs X rest u):PSs X (st::rest) (Xi t u):=by
 intro aa s σ H D I h;refine wpAny_execs_cons (thn (h1 aa s σ H { D with nx:=u D } I h) λf s1 q=>?_);cases f with
 |next =>
  obtain⟨σ',H',I',q⟩:=q;exact h2 aa s1 σ' H' D I' q
 |ret v=>exact q
 |brk=>exact q
 |cont=>exact q
def pZ(h1:PS X st t):PSs X [st] t:=by
 intro aa s σ H D I h;refine wpAny_execs_cons (thn (h1 aa s σ H D I h) λf s1 q=>?_);cases f with
 |next=>exact wpAny_execs_nil q
 |ret v=>exact q
 |brk=>exact q
 |cont=>exact q
def Inv.quiet{aa:Γ}{σ:St}{H:Hp}{s:Shared}(I:Inv X aa σ H s):interactive X.env=false:=by simp[interactive,I.ok.kind]
def aiw(te:TE):TS:=λD σ H=>te σ H λ_ H1=>D.nx σ H1
def iY(he:PE X e te)(hs:swapsWith e none pos.line X.env=pure false:=by rfl):PS X (.Expr e pos) (aiw te):=by
 intro aa s σ H D I h;exact wpAny_Expr_any (thn (he aa s σ H _ I h) λv s1 hP=>by obtain⟨x,H1,I1,r1,q1⟩:=hP;exact⟨σ,H1,I1,q1⟩) I.quiet hs
def amw(te:TE):TS:=λD σ H=>te σ H D.rt
def zO(he:PE X e te):PS X (.Return (some e) pos) (amw te):=by
 intro aa s σ H D I h;exact wpAny_Return_some (thn (he aa s σ H _ I h) λv s1 hP=>by obtain⟨x,H1,I1,r1,q1⟩:=hP;exact⟨x,σ,H1,I1,r1,q1⟩)
def amS(c:TT)(t u:TS):TS:=λD σ H=>c σ H λb H1=>if b=true then t D σ H1 else u D σ H1
def aeK{c:Expr}{a b:List Stmt}{tc:TT}(hc:PT X c tc)(ha:PSs X a t)(hb:PSs X b u):PS X (.If c a b pos) (amS tc t u):=by
 intro aa s σ H D I h;refine wpAny_If (thn (hc aa s σ H _ I h) λd s1 hP=>?_);obtain⟨H1,I1,q1⟩:=hP;cases d with
 |true=>exact ha aa s1 σ H1 D I1 q1
 |false=>exact hb aa s1 σ H1 D I1 q1
def agD:TS:=λ_ _ _=>False
def aaX:PS X st agD:=λ_ _ _ _ _ _ h=>h.elim
end
abbrev TG:=V->St->Hp->(St->Hp->Prop)->Prop
abbrev TGs:=Ε->St->Hp->(St->Hp->Prop)->Prop
def PG(X:Cx)(hZ:Expr)(t:TG):Prop :=
 ∀(aa:Γ)(s:Shared)(σ:St)(H:Hp)(v:V)(u:Value)(Q:St->Hp->Prop),Inv X aa σ H s->RelV v u->t v σ H Q ->
  wpAny (model X.prog X.w) X.A (assign hZ X.env u) (λ_ s'=>∃σ' H',Inv X aa σ' H' s'/\Q σ' H') X.xe s
def PGs(X:Cx)(ts:List Expr)(t:TGs):Prop :=
 ∀(aa:Γ)(s:Shared)(σ:St)(H:Hp)(vs:Ε)(us:Δ)(Q:St->Hp->Prop),Inv X aa σ H s->Vals vs us->t vs σ H Q ->
  wpAny (model X.prog X.w) X.A (assignInOrder ((assignEach ts X.env).map (·.2)) us) (λ_ s'=>∃σ' H',Inv X aa σ' H' s'/\Q σ' H') X.xe s
abbrev agm:=V->V->V->Hp->(Hp->Prop)->Prop
def alC(X:Cx)(t:agm):Prop :=
 ∀(aa:Γ)(s:Shared)(σ:St)(H:Hp)(o i v:V)(ov iv u:Value)(Q:Hp->Prop),Inv X aa σ H s->RelV o ov->RelV i iv->RelV v u->t o i v H Q ->
  wpAny (model X.prog X.w) X.A (setItem ov iv u) (λ_ s'=>∃H',Inv X aa σ H' s'/\Q H') X.xe s
abbrev TIp:=V->V->Hp->VK->Prop
def PIp(X:Cx)(op:Operator)(t:TIp):Prop :=
 ∀(aa:Γ)(s:Shared)(σ:St)(H:Hp)(x y:V)(v u:Value)(Q:VK),Inv X aa σ H s->RelV x v->RelV y u->t x y H Q ->
  wpAny (model X.prog X.w) X.A (inplaceOp op v u) (EP X aa σ Q) X.xe s
section
variable{X:Cx}{pos:Pos}
def yO(i:Nat):TG:=λv σ H Q=>Q (σ.set i (some v)) H
def jC{i:Nat}{x:Str}(hN:X.N.Nodup)(hi:X.N[i]?=some x)(hx:Loc X.env.scope x)(hf:zd X x:=by first|exact .inl rfl|exact .inr rfl|assumption):PG X (.Name x pos) (yO i):=by
 intro aa s σ H v u Q I r h;exact wpAny_assign_Name (qZ I hN hi hx r (λs' I'=>⟨_,H,I',h⟩) hf)
def al2:TGs:=λvs σ H Q=>vs=[]/\Q σ H
def ajP(t:TG)(u:TGs):TGs:=λvs σ H Q=>∃v r,vs=v::r/\t v σ H λσ' H'=>u r σ' H' Q
def VL:PGs X [] al2:=by
 intro aa s σ H vs us Q I r h;obtain⟨e,h⟩:=h;subst e;cases r;exact assignInOrder_nil ⟨σ,H,I,h⟩
def Cw{e:Expr}{es:List Expr}{t:TG}{u:TGs}(h1:PG X e t)(h2:PGs X es u)
 (hs:(assignEach (e::es) X.env).map (·.2)=assign e X.env::(assignEach es X.env).map (·.2):=by rfl):PGs X (e::es) (ajP t u):=by
 intro aa s σ H vs us Q I r h;obtain⟨v,vr,e1,h⟩:=h;subst e1;cases r with
 |cons r rr =>
  rw[hs];refine assignInOrder_cons (thn (h1 aa s σ H _ _ _ I r h) λ_ s1 hP=>?_);obtain⟨σ1,H1,I1,q1⟩:=hP;exact h2 aa s1 σ1 H1 _ _ Q I1 rr q1
def aml(K:Frag)(n:Nat)(t:TGs):TG:=λv σ H Q=>∃a xs,v=.ref a/\SqT K H a xs/\xs.length=n/\t xs σ H Q
abbrev zS(X:Cx)(a:List Expr):Prop:=(assignEach a X.env).findIdx? (·.1)=none
def aaC{es:List Expr}{k:Nat}{t:TGs}{n:Nat}(hc:X.calm=true)(h:PGs X es t)
 (hn:(assignEach es X.env).length=n:=by rfl)(bj:zS X es:=by rfl):PG X (.Tuple es k pos) (aml X.K n t):=by
 intro aa s σ H v u Q I r hw;obtain⟨a,xs,e1,hq,hl,hw⟩:=hw;subst e1;cases r;obtain⟨its,rv,ht,hz⟩:=I.tuple hq;refine assign_Tuple_tuple (I.ok.hd hc) ht (by simp[hn,<- hl,rv.length]) bj λh' hx=>?_;have I1:Inv X aa σ H { s with heap:=h' }:=I.kept (t':=s.toks) λb o e=>hx b o (aQ (aK e)) e;exact h aa _ σ H xs _ Q I1 (by simpa using rv) hw
def al1(to ti:TE)(t:agm):TG:=λv σ H Q=>to σ H λo H1=>ti σ H1 λi H2=>t o i v H2 λH3=>Q σ H3
def abG{o i:Expr}{to ti:TE}{t:agm}(ho:PE X o to)(hi:PE X i ti)(hs:alC X t)
 (ha:∀v,assign (.Subscript o i pos) X.env v=(do
   let ov <- holding [v] (eval o X.env)
   let iv <- holding [v,ov] (eval i X.env)
   standAt pos
   holding [v,ov,iv] (setItem ov iv v)
   release [v,ov,iv] []):=by intro _;rfl):PG X (.Subscript o i pos) (al1 to ti t):=by
 intro aa s σ H v u Q I r h;rw[ha];refine ZU (wpAny_holding (thn (ho aa s σ H _ I h) λov s1 hP=>?_));obtain⟨x,H1,I1,r1,q1⟩:=hP;refine ZU (wpAny_holding (thn (hi aa s1 σ H1 _ I1 q1) λiv s2 hP=>?_));obtain⟨y,H2,I2,r2,q2⟩:=hP;refine ZU (wpAny_standAt (ZU (wpAny_holding (thn (hs aa s2 σ H2 x y v ov iv u _ I2 r1 r2 r q2) λ_ s3 hP=>?_))));obtain⟨H3,I3,q3⟩:=hP;exact wpAny_release ⟨σ,H3,I3,q3⟩
def ad9(te:TE)(g:TG):TS:=λD σ H=>te σ H λx H1=>g x σ H1 D.nx
def Tj{tg e:Expr}{te:TE}{g:TG}(he:PE X e te)(hg:PG X tg g)(hs:swapsWithSole [tg] e pos.line X.env=pure false:=by rfl)(hw:swappedStores [tg] e X.env=pure none:=by rfl)
 (h1:(assignEach [tg] X.env).map (·.2)=[assign tg X.env]:=by rfl):PS X (.Assign [tg] e pos) (ad9 te g):=by
 intro aa s σ H D I h;refine wpAny_Assign_stores (thn (he aa s σ H _ I h) λv s1 hP=>?_) hs hw;obtain⟨x,H1,I1,r1,q1⟩:=hP;rw[h1];exact thn (hg aa s1 σ H1 x v _ I1 r1 q1) λ_ s2 q=>q
def abn{i:Nat}{x:Str}{e:Expr}{te:TE}{ay:Pos}(hN:X.N.Nodup)(hi:X.N[i]?=some x)(hx:Loc X.env.scope x)(he:PE X e te)(hs:swapsWith e (some (.Name x ay)) pos.line X.env=pure false:=by rfl)(hf:zd X x:=by first|exact .inl rfl|exact .inr rfl|assumption) :
  PS X (.Assign [.Name x ay] e pos) (ad9 te (yO i)):=by
 intro aa s σ H D I h;refine wpAny_Assign_Name (thn (he aa s σ H _ I h) λv s1 hP=>?_) hs;obtain⟨y,H1,I1,r1,q1⟩:=hP;exact qZ I1 hN hi hx r1 (λs2 I2=>⟨_,H1,I2,q1⟩) hf
def al9(i j:Nat)(ta:TA):TS:=λD σ H=>ta σ H λvs H1=>∃v w,vs=[v,w]/\D.nx ((σ.set i (some v)).set j (some w)) H1
def afy{i j:Nat}{x y:Str}{a b:Expr}{ta:TA}{px py pt:Pos}{kt k2 pt2}(hc:X.calm=true)(hN:X.N.Nodup)(hi:X.N[i]?=some x)(hj:X.N[j]?=some y)(i8:i≠j)
 (hx:X.env.scope.names.lookup x=some .local)(hy:X.env.scope.names.lookup y=some .local)(ha:PA X [a,b] ta)
 (hw:swappedStores [.Tuple [.Name x px,.Name y py] kt pt] (.Tuple [a,b] k2 pt2) X.env=pure (some [x,y]))
 (hs:swapsWithSole [.Tuple [.Name x px,.Name y py] kt pt] (.Tuple [a,b] k2 pt2) pos.line X.env=pure false:=by rfl) :
  PS X (.Assign [.Tuple [.Name x px,.Name y py] kt pt] (.Tuple [a,b] k2 pt2) pos) (al9 i j ta):=by
 intro aa s σ H D I h;rw[exec_Assign_arm];refine ZU (wpAny_standAt ?_);rw[hs];refine ZU (ZT ?_);rw[ZZ (by decide)];refine ZU (Tuple_ (thn (ha _ aa s σ H _ I h) λus s1 hP=>?_));obtain⟨vs,H1,I1,r1,q1⟩:=hP;obtain⟨v,w,e1,q1⟩:=q1;subst e1;obtain⟨u1,u2,rfl,rv,fg⟩ : ∃u1 u2,us=[u1,u2]/\RelV v u1/\RelV w u2:=by
  cases r1 with
  |cons p q =>
   cases q with
   |cons p' q' =>
    cases q';exact⟨_,_,rfl,p,p'⟩
 refine wpAny_newObj_type ?_ (by show 2<=sizeLine;decide);have I2:Inv X aa σ H1 { s1 with heap:=s1.heap.push { cls:=.type "tuple",data:=.seq [u1,u2].toArray } }:=I1.kept (t':=s1.toks) λb o e=>aH _ e;rw[hw];refine ZU (ZT ?_);show wpAny (model X.prog X.w) X.A (do rule "assign.swapped-stores"; let items <- unpackItems (.ref s1.heap.objs.size) 2 none;assignInOrder [λv=>bindName X.env y v,λv=>bindName X.env x v] items.reverse;pure Flow.next) _ _ _;refine ZU (wpAny_rule (ZU (unpackItems_tuple (items:=#[u1,u2]) (I.ok.hd hc) (IsTup.new s1.heap _) λh' hx'=>?_)));have I3:=I2.kept (h':=h') (t':=s1.toks) λb o e=>hx' b o (aQ (aK e)) e;show wpAny _ _ (assignInOrder [λv=>bindName X.env y v,λv=>bindName X.env x v] [u2,u1] >>= λ_=>pure Flow.next) _ _ _;refine ZU (assignInOrder_cons (wpAny_bindName (qZ I3 hN hj (.inl hy) fg (λs2 I4=>?_) (.inr hy))));refine assignInOrder_cons (wpAny_bindName (qZ I4 hN hi (.inl hx) rv (λs3 I5=>assignInOrder_nil (ZT ?_)) (.inr hx)));rw[List.set_comm _ _ (Ne.symm i8)]at I5;exact⟨_,H1,I5,q1⟩
def alI(i:Nat)(te:TE)(ti:TIp):TS:=λD σ H=>∃x,σ[i]?=some (some x)/\te σ H λy H1=>ti x y H1 λz H2=>D.nx (σ.set i (some z)) H2
def afu{i:Nat}{x:Str}{e:Expr}{te:TE}{op:Operator}{ti:TIp}{ay:Pos}(hN:X.N.Nodup)(hi:X.N[i]?=some x)(hx:Loc X.env.scope x)(he:PE X e te)(ho:PIp X op ti)(hf:zd X x:=by first|exact .inl rfl|exact .inr rfl|assumption) :
  PS X (.AugAssign (.Name x ay) op e pos) (alI i te ti):=by
 intro aa s σ H D I h;obtain⟨v,e1,h⟩:=h;obtain⟨m,hn,hl⟩:=I.loc;have vis:Vis X.env.scope x:=by rcases hx with k|k;exact .inl k;exact .inr (.inl k)
 obtain⟨u,r,l⟩:=hl i x v hi e1 vis;refine wpAny_AugAssign_Name ?_;have go:wpAny (model X.prog X.w) X.A (eval e X.env) (λw s₂=>wpAny (model X.prog X.w) X.A (inplaceOp op u w) (λr s₃=>wpAny (model X.prog X.w) X.A (storeName X.env x r) (λ_=>SP X aa D .next) X.xe s₃) X.xe s₂) X.xe s:=by
  refine thn (he aa s σ H _ I h) λw s1 hP=>?_;obtain⟨y,H1,I1,r1,q1⟩:=hP;refine thn (ho aa s1 σ H1 v y u w _ I1 r r1 q1) λz s2 hP=>?_;obtain⟨zv,H2,I2,r2,q2⟩:=hP;exact qZ I2 hN hi hx r2 (λs3 I3=>⟨_,H2,I3,q2⟩) hf
 rcases l with⟨hk,hm⟩|⟨hk,c,hc,c6⟩
 .exact wpAny_loadName_local I.ok.kind hk hn hm go
 .rcases hk with hk|hk
  .exact wpAny_loadName_cell I.ok.kind hk hc c6 go
  .rcases hx with k|k
   .have:X.env.scope.names.lookup x=some .free:=hk;rw[k]at this;cases this
   .have:X.env.scope.names.lookup x=some .free:=hk;rw[k]at this;cases this
def ipI(f:Int->Int->Int):TIp:=λx y H Q=>∃i j,x=.int i/\y=.int j/\Q (.int (f i j)) H
def agW:PIp X .Add (ipI λi j=>i+j):=by
 intro aa s σ H x y v u Q I r1 r2 h;obtain⟨i,j,e1,e2,q⟩:=h;subst e1;subst e2;obtain⟨t,rfl⟩:=r1;obtain⟨t',rfl⟩:=r2;exact iadd_int ⟨.int _,H,I.tok _,⟨_,rfl⟩,q⟩
end
section
variable{X:Cx}{pos:Pos}
def ag9(c:TT)(tb:TS):TS:=λD σ H=>∃W:Nat->St->Hp->Prop,(∃m,W m σ H)/\∀m σ H,W m σ H ->
 c σ H λb H1=>if b=true then ∃N:St->Hp->Prop,(∀σ' H',N σ' H'->∃m',m'<m/\W m' σ' H')/\tb { D with nx:=N,ct:=N,bk:=D.nx } σ H1 else D.nx σ H1
def abW{c:Expr}{bP:List Stmt}{tc:TT}{tb:TS}(hp:PassesOwn (model X.prog X.w) X.A X.env X.xe)(hc:PT X c tc)(hb:PSs X bP tb):PS X (.While c bP [] pos) (ag9 tc tb):=by
 intro aa s σ H D I h;obtain⟨W,⟨m0,w0⟩,fc⟩:=h;refine wpAny_While (codeAny_whileLoop (λn s'=>∃σ' H',Inv X aa σ' H' s'/\W n σ' H') ?_ m0 ⟨σ,H,I,w0⟩);rintro n s1 ⟨σ1,H1,I1,w1⟩;refine wpAny_passesOwn hp (thn (hc aa s1 σ1 H1 _ I1 (fc n σ1 H1 w1)) λb s2 hP=>?_);obtain⟨H2,I2,q2⟩:=hP;cases b with
 |true =>
  obtain⟨N,hN,q2⟩:=q2;rw[ZY rfl];refine wpAny_passesOwn hp (thn (hb aa s2 σ1 H2 _ I2 q2) λf s3 q3=>?_);cases f with
  |next =>
   obtain⟨σ3,H3,I3,n3⟩:=q3;obtain⟨m',hm,w3⟩:=hN σ3 H3 n3;exact⟨m',hm,σ3,H3,I3,w3⟩
  |cont =>
   obtain⟨σ3,H3,I3,n3⟩:=q3;obtain⟨m',hm,w3⟩:=hN σ3 H3 n3;exact⟨m',hm,σ3,H3,I3,w3⟩
  |brk=>exact q3
  |ret v=>exact q3
 |false =>
  rw[ZZ bh];exact wpAny_execs_nil ⟨σ1,H2,I2,q2⟩
end
structure It where
 go:Nat->Hp->Prop
 yld:Nat->Hp->V->Hp->Prop
 stop:Nat->Hp->Prop
def Ey(X:Cx)(aa:Γ)(H:Hp)(b:Addr):Prop :=
 H b=none/\b≠X.env.locals/\b∉X.fs/\(b∈X.ex\/X.s₀.heap.objs.size<=b)/\(∀x c,X.env.cells.lookup x=some c->c≠b)/\∀p∈X.pn++aa,p.1≠b
def Inv.fpOk{X:Cx}{aa:Γ}{σ:St}{H H':Hp}{s:Shared}{b:Addr}(I:Inv X aa σ H s)(hb:s.heap.objs.size<=b)(hn:H' b=none):Ey X aa H' b:=by
 refine⟨hn,VW (aR I.lt hb),I.nofs hb,.inr (aL I.sz hb),λx c e z=>?_,λp hp z=>?_⟩
 .obtain⟨v,q⟩:=I.cell x c e;exact absurd (aR q.lt (by rw[z];exact hb)) (X2 _)
 .exact absurd (aR (aK (I.pin p hp).1) (by rw[z];exact hb)) (X2 _)
structure Turn(P:Program)(w:World)(K:Frag)(tg:Expr)(J:It)(fp:Φ)(it:Addr)(tn:Nat->Heap->Prop):Prop where
 mem:it∈fp
 obj:∀i h,tn i h->∀b∈fp,∃o,h.get? b=some o/\∀v,o.data≠.cell v
 keep:∀i h h',tn i h->(∀b∈fp,∀o,h.get? b=some o->h'.get? b=some o)->tn i h'
 item:∀(X:Cx),X.prog=P->X.w=w->X.K=K->X.calm=true->∀(i:Nat)(aa:Γ)(s:Shared)(σ:St)(H:Hp)(E:Β),Inv X aa σ H s->(∀b∈fp,Ey X aa H b)->tn i s.heap->J.go i H ->
  wpAny (model P w) X.A (pyNext (.ref it)) (λr s1=>∃u,r=some u /\
   wpAny (model P w) X.A (letOwnedTupleGo tg (.ref it) u) (λ_ s2=>∃x H',Inv X aa σ H' s2/\RelV x u/\J.yld i H x H'/\tn (i+1) s2.heap/\∀b∈fp,H' b=none) E s1) E s
 done:∀(X:Cx),X.prog=P->X.w=w->X.K=K->X.calm=true->∀(i:Nat)(aa:Γ)(s:Shared)(σ:St)(H:Hp)(E:Β),Inv X aa σ H s->(∀b∈fp,Ey X aa H b)->tn i s.heap->J.stop i H ->
  wpAny (model P w) X.A (pyNext (.ref it)) (λr s1=>r=none/\Inv X aa σ H s1) E s
 self:∀(A:Around)(i:Nat)(s:Shared)(Q:Β)(E:Β),tn i s.heap->Q (.ref it) s->wpAny (model P w) A (pyIter (.ref it)) Q E s
abbrev TI:=St->Hp->(It->Hp->Prop)->Prop
def PIE(X:Cx)(aa:Γ)(σ:St)(tg:Expr)(R:It->Hp->Prop)(mT:Value)(s2:Shared):Prop :=
 ∃(it:Addr)(fp:Φ)(tn:Nat->Heap->Prop)(J:It)(H':Hp),mT=.ref it/\Inv X aa σ H' s2/\Turn X.prog X.w X.K tg J fp it tn/\tn 0 s2.heap/\(∀b∈fp,Ey X aa H' b)/\R J H'
def PI(X:Cx)(tg iter:Expr)(wi:TI):Prop :=
 ∀(aa:Γ)(s:Shared)(σ:St)(H:Hp)(R:It->Hp->Prop),Inv X aa σ H s->wi σ H R ->
  wpAny (model X.prog X.w) X.A (eval iter X.env) (λv s1=>wpAny (model X.prog X.w) X.A (pyIter v) (PIE X aa σ tg R) X.xe s1) X.xe s
def Rf{M:Model}{A:Around}{E:Β}{s:Shared}{tg:Expr}{it:Addr}{u:Value}{o:Obj}{n:String}{vs:Array Value}{Q:Unit->Shared->Prop}(ho:s.heap.get? it=some o)(hc:o.cls=.type n)(hd:o.data=.fields vs)
   (hn : ["enumerate","zip","dict_itemiterator","dict_reverseitemiterator","odict_iterator","itertools.zip_longest","itertools.pairwise"].contains n=false)(hQ:Q () s):wpAny M A (letOwnedTupleGo tg (.ref it) u) Q E s:=by
  unfold letOwnedTupleGo;cases tg<;>first
    |exact ZT hQ
    |(cases u<;>first
        |exact ZT hQ
        | (refine ZU (wpAny_load ho ?_)
           rw[hc,hd];show wpAny M A (if(["enumerate","zip","dict_itemiterator","dict_reverseitemiterator","odict_iterator","itertools.zip_longest","itertools.pairwise"].contains n&&vs[0]?==some (rawInt _))=true then _ else _) Q E s;rw[ZZ (by intro h;rw[hn,Bool.false_and]at h;cases h)];exact ZT hQ))
def Itl(K:Frag)(a:Addr):It :=
 ⟨λi H=>∃xs x,SqL K H a xs/\xs[i]?=some x,λi H x H'=>H'=H/\∀xs,SqL K H a xs->xs[i]?=some x,λi H=>∃xs,SqL K H a xs/\xs.length<=i⟩
def Itt(K:Frag)(a:Addr):It :=
 ⟨λi H=>∃xs x,SqT K H a xs/\xs[i]?=some x,λi H x H'=>H'=H/\∀xs,SqT K H a xs->xs[i]?=some x,λi H=>∃xs,SqT K H a xs/\xs.length<=i⟩
def Itr(lo:Int)(n:Nat):It:=⟨λi _=>i<n,λi H x H'=>H'=H/\x=.int (lo+i),λi _=>n<=i⟩
def X5{P:Program}{w:World}{K:Frag}{tg:Expr}(a it:Addr):Turn P w K tg (Itl K a) [it] it (λi h=>h.IsListIter it a i) where
 mem:=by simp
 obj:=λi h st b hb=>by
  have e:b=it:=by simpa using hb
  subst e;obtain⟨o,e,c,d⟩:=st;exact⟨o,e,λv z=>by rw[d]at z;cases z⟩
 keep:=λi h h' st k=>st.at λo e=>k it (by simp) o e
 item:=by
  intro X hP hw hK hc i aa s σ H E I hf st hg;subst hP hw hK;obtain⟨xs,x,hq,hx⟩:=hg;obtain⟨its,rv,p,hz⟩:=I.list hq;obtain⟨u,hu,ru⟩:=rv.get hx;obtain⟨f0,f1,f2,f3,f4,f5⟩:=hf it (by simp);refine wpAny_pyNext_list_item st p.isList (x:=u) (by simpa using hu) λh' dk sb=>?_;have I1:Inv X aa σ H { s with heap:=h' }:=I.turned (t':=s.toks) (λb o hb e=>(sb.2 b hb).trans e) f0 f1 f3 f4 f5;obtain⟨o,e,c,d⟩:=id dk;exact⟨u,rfl,Rf (s:={ s with heap:=h' }) e c d (by decide) ⟨x,H,I1,ru,⟨rfl,λys hy=>by rw[I.list_inj hy hq];exact hx⟩,dk,λb hb=>(hf b hb).1⟩⟩
 done:=by
  intro X hP hw hK hc i aa s σ H E I hf st hg;subst hP hw hK;obtain⟨xs,hq,hx⟩:=hg;obtain⟨its,rv,p,hz⟩:=I.list hq;obtain⟨f0,f1,f2,f3,f4,f5⟩:=hf it (by simp);have hl:=rv.length;exact wpAny_pyNext_list_end (I.ok.hd hc) st p.isList (by simp;lia) λh' eb=>⟨rfl,I.turned (t':=s.toks) (λb o hb e=>eb b o hb e) f0 f1 f3 f4 f5⟩
 self:=λ_ _ _ _ _ st h=>wpAny_pyIter_listiter st h
def TQ{P:Program}{w:World}{K:Frag}{tg:Expr}(a it:Addr):Turn P w K tg (Itt K a) [it] it (λi h=>h.IsTupleIter it a i) where
 mem:=by simp
 obj:=λi h st b hb=>by
  have e:b=it:=by simpa using hb
  subst e;obtain⟨o,e,c,d⟩:=st;exact⟨o,e,λv z=>by rw[d]at z;cases z⟩
 keep:=λi h h' st k=>st.at λo e=>k it (by simp) o e
 item:=by
  intro X hP hw hK hc i aa s σ H E I hf st hg;subst hP hw hK;obtain⟨xs,x,hq,hx⟩:=hg;obtain⟨its,rv,p,hz⟩:=I.tuple hq;obtain⟨u,hu,ru⟩:=rv.get hx;obtain⟨f0,f1,f2,f3,f4,f5⟩:=hf it (by simp);refine wpAny_pyNext_tuple_item st (show s.heap.IsTuple a its.toArray from p) (x:=u) (by simpa using hu) λh' dk sb=>?_;have I1:Inv X aa σ H { s with heap:=h' }:=I.turned (t':=s.toks) (λb o hb e=>(sb.2 b hb).trans e) f0 f1 f3 f4 f5;obtain⟨o,e,c,d⟩:=id dk;exact⟨u,rfl,Rf (s:={ s with heap:=h' }) e c d (by decide) ⟨x,H,I1,ru,⟨rfl,λys hy=>by rw[I.tuple_inj hy hq];exact hx⟩,dk,λb hb=>(hf b hb).1⟩⟩
 done:=by
  intro X hP hw hK hc i aa s σ H E I hf st hg;subst hP hw hK;obtain⟨xs,hq,hx⟩:=hg;obtain⟨its,rv,p,hz⟩:=I.tuple hq;obtain⟨f0,f1,f2,f3,f4,f5⟩:=hf it (by simp);have hl:=rv.length;exact wpAny_pyNext_tuple_end (I.ok.hd hc) st (show s.heap.IsTuple a its.toArray from p) (by simp;lia) λh' eb=>⟨rfl,I.turned (t':=s.toks) (λb o hb e=>eb b o hb e) f0 f1 f3 f4 f5⟩
 self:=λ_ _ _ _ _ st h=>wpAny_pyIter_tupleiter st h
def T5{P:Program}{w:World}{K:Frag}{tg:Expr}(it:Addr)(lo:Int)(n:Nat):Turn P w K tg (Itr lo n) [it] it (λi h=>IsRangeIter h it (lo+(i:Nat)*1) ((n:Int)-(i:Nat)) 1) where
 mem:=by simp
 obj:=λi h st b hb=>by
  have e:b=it:=by simpa using hb
  subst e;exact⟨_,st,λv z=>by
   have z':Data.fields _=Data.cell v:=z;cases z'⟩
 keep:=λi h h' st k=>k it (by simp) _ st
 item:=by
  intro X hP hw hK hc i aa s σ H E I hf st hg;subst hP hw hK;obtain⟨f0,f1,f2,f3,f4,f5⟩:=hf it (by simp);have W:=Walks.range (prog:=X.prog) (w:=X.w) (I.ok.hd hc) it lo 1 n;refine W.item i s _ _ hg st λv h' tk hv dk kk=>?_;obtain⟨t,rfl⟩:=hv;have I1:Inv X aa σ H { s with heap:=h',toks:=tk }:=I.turned (λb o hb e=>kk b o (by simpa using hb) e) f0 f1 f3 f4 f5;refine⟨_,rfl,Rf (s:={ s with heap:=h',toks:=tk }) (n:="range_iterator") dk rfl rfl (by decide) ⟨.int (lo+i),H,I1,⟨t,?_⟩,⟨rfl,rfl⟩,dk,λb hb=>(hf b hb).1⟩⟩;rw[Tu]
 done:=by
  intro X hP hw hK hc i aa s σ H E I hf st hg;subst hP hw hK;obtain⟨f0,f1,f2,f3,f4,f5⟩:=hf it (by simp);exact wpAny_pyNext_range_end (I.ok.hd hc) st (by have:n<=i:=hg;lia) λh' eb=>⟨rfl,I.turned (t':=s.toks) (λb o hb e=>eb b o hb e) f0 f1 f3 f4 f5⟩
 self:=λ_ _ _ _ _ st h=>wpAny_pyIter_rangeiter st h
section
variable{X:Cx}{tg:Expr}
def alp(K:Frag)(tl:TE):TI:=λσ H R=>tl σ H λx H1=>∃a,x=.ref a/\(∃xs,SqL K H1 a xs)/\R (Itl K a) H1
def amC(K:Frag)(tl:TE):TI:=λσ H R=>tl σ H λx H1=>∃a,x=.ref a/\(∃xs,SqT K H1 a xs)/\R (Itt K a) H1
def ad3{l:Expr}{tl:TE}(hl:PE X l tl):PI X tg l (alp X.K tl):=by
 intro aa s σ H R I h;refine thn (hl aa s σ H _ I h) λv s1 hP=>?_;obtain⟨x,H1,I1,r1,q1⟩:=hP;obtain⟨a,e,⟨xs,hq⟩,q⟩:=q1;subst e;cases r1;obtain⟨its,rv,p,hz⟩:=I1.list hq;refine wpAny_pyIter_list p.isList ?_;refine⟨s1.heap.objs.size,[s1.heap.objs.size],_,_,H1,rfl,I1.kept (t':=s1.toks) λb o e=>aH _ e,X5 a _,⟨_,aW _ rfl,rfl,rfl⟩,λb hb=>?_,q⟩;have e:b=s1.heap.objs.size:=by simpa using hb
 subst e;exact I1.fpOk (aG _) (I1.hok.fresh (aG _))
def aha{l:Expr}{tl:TE}(hl:PE X l tl):PI X tg l (amC X.K tl):=by
 intro aa s σ H R I h;refine thn (hl aa s σ H _ I h) λv s1 hP=>?_;obtain⟨x,H1,I1,r1,q1⟩:=hP;obtain⟨a,e,⟨xs,hq⟩,q⟩:=q1;subst e;cases r1;obtain⟨its,rv,p,hz⟩:=I1.tuple hq;refine wpAny_pyIter_tuple (show s1.heap.IsTuple a its.toArray from p) ?_;refine⟨s1.heap.objs.size,[s1.heap.objs.size],_,_,H1,rfl,I1.kept (t':=s1.toks) λb o e=>aH _ e,TQ a _,⟨_,aW _ rfl,rfl,rfl⟩,λb hb=>?_,q⟩;have e:b=s1.heap.objs.size:=by simpa using hb
 subst e;exact I1.fpOk (aG _) (I1.hok.fresh (aG _))
def Sg{aa:Γ}{σ:St}{H:Hp}{s:Shared}{R:It->Hp->Prop}{E:Β}{lo hi:Int}{t u v:Tok}{tk:Nat}(I:Inv X aa σ H s)(h1 : -(2^62)<=lo)(h2:lo<2^62)(h3 : -(2^62)<=hi)(h4:hi<2^62)
 (q:R (Itr lo (hi-lo).toNat) H):wpAny (model X.prog X.w) X.A (pyIter (.ref s.heap.objs.size)) (PIE X aa σ tg R) E { s with heap:=s.heap.push { cls:=.type "range",data:=.fields #[.int lo t,.int hi u,.int 1 v] },toks:=tk }:=by
 refine wpAny_pyIter_range (IsRange.new ..) (small_one h1 h2 h3 h4) ?_;have I1:Inv X aa σ H { s with heap:=s.heap.push { cls:=.type "range",data:=.fields #[.int lo t,.int hi u,.int 1 v] },toks:=tk }:=I.kept λb o e=>aH _ e;refine⟨(s.heap.push { cls:=.type "range",data:=.fields #[.int lo t,.int hi u,.int 1 v] }).objs.size,[(s.heap.push { cls:=.type "range",data:=.fields #[.int lo t,.int hi u,.int 1 v] }).objs.size],_,_,H,rfl,
  I1.kept (t':=tk) λb o e=>aH _ e,T5 _ lo (hi-lo).toNat,?_,λb hb=>?_,q⟩
 .have e1:lo+((0:Nat):Int)*1=lo:=by simp
  have e2:(((hi-lo).toNat:Nat):Int)-((0:Nat):Int)=Builtin.Range.rangeSize lo hi 1:=by rw[rangeSize_one];split<;>lia
  show IsRangeIter _ _ (lo+((0:Nat):Int)*1) ((((hi-lo).toNat:Nat):Int)-((0:Nat):Int)) 1;rw[e1,e2];exact aW _ rfl
 .have e:b=(s.heap.push { cls:=.type "range",data:=.fields #[.int lo t,.int hi u,.int 1 v] }).objs.size:=by simpa using hb
  subst e;exact I1.fpOk (aG _) (I1.hok.fresh (aG _))
def ahq(ta:TA):TI:=λσ H R=>ta σ H λvs H1=>∃j:Int,vs=[.int j]/\-(2^62)<=j/\j<2^62/\R (Itr 0 j.toNat) H1
def ak3(ta:TA):TI:=λσ H R=>ta σ H λvs H1=>∃i j:Int,vs=[.int i,.int j]/\(-(2^62)<=i/\i<2^62/\-(2^62)<=j/\j<2^62)/\R (Itr i (j-i).toNat) H1
def XM{a:Expr}{ta:TA}{p pos:Pos}(hg:Gl X "range")(hm:X.mg "range"=none)(ha:PA X [a] ta)(hs:starEach [a] X.env=[(false,eval a X.env)]:=by rfl):PI X tg (.Call (.Name "range" p) [a] [] pos) (ahq ta):=by
 intro aa s σ H R I h;refine Call_ (xg I hg hm boot_range (PyProof.Rows.callWith_type1 (thn (ha pos aa s σ H _ I h) λus s1 hP=>?_) hs rfl));obtain⟨vs,H1,I1,r1,q1⟩:=hP;obtain⟨j,e,q1,q2,q⟩:=q1;subst e;cases r1 with
 |cons r rr =>
  cases rr;obtain⟨t,rfl⟩:=r;exact call_range_1 (Sg I1 (XY (by decide)) (TK (by decide)) q1 q2 (by simpa using q))
def Xy{a b:Expr}{ta:TA}{p pos:Pos}(hg:Gl X "range")(hm:X.mg "range"=none)(ha:PA X [a,b] ta)(hs:starEach [a,b] X.env=[(false,eval a X.env),(false,eval b X.env)]:=by rfl)(dv:starEach [b] X.env=[(false,eval b X.env)]:=by rfl) :
  PI X tg (.Call (.Name "range" p) [a,b] [] pos) (ak3 ta):=by
 intro aa s σ H R I h;refine Call_ (xg I hg hm boot_range (PyProof.Rows.callWith_type1 (thn (ha pos aa s σ H _ I h) λus s1 hP=>?_) (by rw[hs,dv]) (by rw[dv];rfl)));obtain⟨vs,H1,I1,r1,q1⟩:=hP;obtain⟨i,j,e,⟨q1,q2,q3,q4⟩,q⟩:=q1;subst e;cases r1 with
 |cons r rr =>
  cases rr with
  |cons r' rr =>
   cases rr;obtain⟨t,rfl⟩:=r;obtain⟨t',rfl⟩:=r';exact call_range_2 (Sg I1 q1 q2 q3 q4 q)
def aiP(wi:TI)(g:TG)(tb:TS):TS:=λD σ H=>wi σ H λJ H1=>∃W:Nat->Nat->St->Hp->Prop,(∃m,W 0 m σ H1)/\∀i m σ H,W i m σ H ->
 (J.stop i H/\D.nx σ H)\/(J.go i H/\∃N:St->Hp->Prop,(∀σ' H',N σ' H'->∃m',m'<m/\W (i+1) m' σ' H')/\∀x H',J.yld i H x H'->g x σ H' λσ2 H2=>tb { D with nx:=N,ct:=N,bk:=D.nx } σ2 H2)
def IV(fp:Φ)(h:Heap):Γ:=fp.filterMap λb=>(h.get? b).map λo=>(b,o)
def pH{fp:Φ}{h:Heap}{b:Addr}{o:Obj}(hb:b∈fp)(e:h.get? b=some o):(b,o)∈IV fp h:=List.mem_filterMap.mpr ⟨b,hb,by rw[e];rfl⟩
def Xd{fp:Φ}{h:Heap}{p:Addr×Obj}(hp:p∈IV fp h):p.1∈fp/\h.get? p.1=some p.2:=by
 obtain⟨b,hb,e⟩:=List.mem_filterMap.mp hp;cases q:h.get? b with
 |none=>rw[q]at e;cases e
 |some o =>
  rw[q]at e;have e':(b,o)=p:=Option.some.inj e;subst e';exact⟨hb,q⟩
def Inv.pinned{aa:Γ}{σ:St}{H:Hp}{s:Shared}{fp:Φ}(I:Inv X aa σ H s)(hf:∀b∈fp,Ey X aa H b)(ho:∀b∈fp,∃o,s.heap.get? b=some o/\∀v,o.data≠.cell v):Inv X (aa++IV fp s.heap) σ H s :=
 I.pins_of λp hp=>(Y1.mp hp).elim (λz=>I.pin p (aP _ z)) λz=>by
  obtain⟨hb,e⟩:=Xd z;obtain⟨f0,f1,f2,_⟩:=hf p.1 hb;obtain⟨o,e',d⟩:=ho p.1 hb;rw[e]at e';cases e';exact⟨e,f0,f1,f2,d⟩
def Inv.unpinned{aa pl:Γ}{σ:St}{H:Hp}{s:Shared}(I:Inv X (aa++pl) σ H s):Inv X aa σ H s:=I.pins_of λp hp=>I.pin p (aP _ (TR _ hp))
abbrev zh(X:Cx)(a:Expr):Prop:=∀z,foldedSetIterable a X.env z=pure z
def abV{iter:Expr}{bP:List Stmt}{wi:TI}{g:TG}{tb:TS}{pos:Pos}(hp:PassesOwn (model X.prog X.w) X.A X.env X.xe)(hc:X.calm=true)(hi:PI X tg iter wi)(hg:PG X tg g)(hb:PSs X bP tb)
 (hs:zh X iter:=by intro _;rfl):PS X (.For tg iter bP [] pos) (aiP wi g tb):=by
 intro aa s σ H D I h;refine wpAny_For (thn (hi aa s σ H _ I h) λv s1 h1=>thn h1 λmT s2 h2=>?_) hs;obtain⟨it,fp,tn,J,H2,e,I2,T,fA,f2,W,⟨m0,w0⟩,fc⟩:=h2;subst e

 have h7:∀{H':Hp},(∀b∈fp,H' b=none)->∀b∈fp,Ey X aa H' b:=λhn b hb=>⟨hn b hb,(f2 b hb).2⟩;refine codeAny_forLoop_any (λn s'=>∃i σ' H',Inv X aa σ' H' s'/\tn i s'.heap/\(∀b∈fp,H' b=none)/\W i n σ' H') ?_ m0 ⟨0,σ,H2,I2,fA,λb hb=>(f2 b hb).1,w0⟩;rintro n s3 ⟨i,σ3,H3,I3,iX,fr3,w3⟩;rcases fc i n σ3 H3 w3 with⟨stop,qn⟩|⟨go,N,hN,step⟩
 .refine wpAny_passesOwn hp (thn (T.done X rfl rfl rfl hc i aa s3 σ3 H3 X.xe I3 (h7 fr3) iX stop) λr s4 hP=>?_);obtain⟨hr,I4⟩:=hP;subst hr;exact wpAny_execs_nil ⟨σ3,H3,I4,qn⟩
 .refine wpAny_passesOwn hp (thn (T.item X rfl rfl rfl hc i aa s3 σ3 H3 X.xe I3 (h7 fr3) iX go) λr s4 hP=>?_);obtain⟨u,hr,h4⟩:=hP;subst hr;refine wpAny_passesOwn hp (thn h4 λ_ s5 hP=>?_);obtain⟨x,H5,I5,r5,y5,mh,fr5⟩:=hP;have I5':=I5.pinned (h7 fr5) (T.obj _ _ mh);refine wpAny_passesOwn hp (thn (hg _ s5 σ3 H5 x u _ I5' r5 (step x H5 y5)) λ_ s6 hP=>?_);obtain⟨σ6,H6,I6,q6⟩:=hP;refine wpAny_passesOwn hp (thn (hb _ s6 σ6 H6 _ I6 q6) λf s7 q7=>?_);have again:∀{σ7:St}{H7:Hp},Inv X (aa++IV fp s5.heap) σ7 H7 s7->N σ7 H7->∃m,m<n/\∃i σ' H',Inv X aa σ' H' s7/\tn i s7.heap/\(∀b∈fp,H' b=none)/\W i m σ' H':=λ{σ7 H7}I7 n7=>by
   obtain⟨m',hm,w7⟩:=hN σ7 H7 n7;refine⟨m',hm,i+1,σ7,H7,I7.unpinned,T.keep _ _ _ mh λb hb o e=>(I7.pin (b,o) (aP _ (aP _ (pH hb e)))).1,λb hb=>?_,w7⟩;obtain⟨o,e,d⟩:=T.obj _ _ mh b hb;exact(I7.pin (b,o) (aP _ (aP _ (pH hb e)))).2.1
  cases f with
  |next=>obtain⟨σ7,H7,I7,n7⟩:=q7;exact again I7 n7
  |cont=>obtain⟨σ7,H7,I7,n7⟩:=q7;exact again I7 n7
  |brk=>obtain⟨σ7,H7,I7,q7⟩:=q7;exact⟨σ7,H7,I7.unpinned,q7⟩
  |ret v=>obtain⟨x7,σ7,H7,I7,r7,q7⟩:=q7;exact⟨x7,σ7,H7,I7.unpinned,r7,q7⟩
end
abbrev R2:=V->V->Hp->VK->Prop
def OpR(X:Cx)(f:Value->Value->Sem Value)(r:R2):Prop :=
 ∀(aa:Γ)(s:Shared)(σ:St)(H:Hp)(x y:V)(v u:Value)(Q:VK),Inv X aa σ H s->RelV x v->RelV y u->r x y H Q ->
  wpAny (model X.prog X.w) X.A (f v u) (EP X aa σ Q) X.xe s
def UnR(X:Cx)(f:Value->Sem Value)(r:V->Hp->VK->Prop):Prop :=
 ∀(aa:Γ)(s:Shared)(σ:St)(H:Hp)(x:V)(v:Value)(Q:VK),Inv X aa σ H s->RelV x v->r x H Q ->
  wpAny (model X.prog X.w) X.A (f v) (EP X aa σ Q) X.xe s
def jq(X:Cx)(f:Value)(r:Ε->Hp->VK->Prop):Prop :=
 ∀(aa:Γ)(s:Shared)(σ:St)(H:Hp)(xs:Ε)(us:Δ)(Q:VK),Inv X aa σ H s->Vals xs us->r xs H Q ->
  wpAny (model X.prog X.w) X.A (call f us) (EP X aa σ Q) X.xe s
def amH(X:Cx)(r:V->Hp->(Bool->Hp->Prop)->Prop):Prop :=
 ∀(aa:Γ)(s:Shared)(σ:St)(H:Hp)(x:V)(v:Value)(Q:Bool->Hp->Prop),Inv X aa σ H s->RelV x v->r x H Q ->
  wpAny (model X.prog X.w) X.A (truthy v) (TP X aa σ Q) X.xe s
def tOp(r:R2)(ta tb:TE):TE:=λσ H Q=>ta σ H λx H1=>tb σ H1 λy H2=>r x y H2 Q
def tUn(r:V->Hp->VK->Prop)(ta:TE):TE:=λσ H Q=>ta σ H λx H1=>r x H1 Q
def rI(C:Int->Int->Prop)(g:Int->Int->V):R2:=λx y H Q=>∃i j,x=.int i/\y=.int j/\C i j/\Q (g i j) H
def rI0(g:Int->Int->V):R2:=λx y H Q=>∃i j,x=.int i/\y=.int j/\Q (g i j) H
def rU(g:Int->V):V->Hp->VK->Prop:=λx H Q=>∃i,x=.int i/\Q (g i) H
section
variable{X:Cx}{a b c:Expr}{ta tb tc:TE}{pos:Pos}
def afY(ha:PE X a ta)(hb:PE X b tb){aa:Γ}{s:Shared}{σ:St}{H:Hp}{R:V->V->Hp->Prop}(I:Inv X aa σ H s)
 (h:ta σ H λx H1=>tb σ H1 λy H2=>R x y H2){Q:Β}{f:Value->Value->Sem Value}
 (hf:∀v u s2 x y H2,Inv X aa σ H2 s2->RelV x v->RelV y u->R x y H2->wpAny (model X.prog X.w) X.A (f v u) Q X.xe s2) :
  wpAny (model X.prog X.w) X.A (eval a X.env) (λv s₁=>wpAny (model X.prog X.w) X.A (eval b X.env) (λu s₂=>wpAny (model X.prog X.w) X.A (f v u) Q X.xe s₂) X.xe s₁) X.xe s:=by
 refine thn (ha aa s σ H _ I h) λv s1 hP=>?_;obtain⟨x,H1,I1,r1,q1⟩:=hP;refine thn (hb aa s1 σ H1 _ I1 q1) λu s2 hP=>?_;obtain⟨y,H2,I2,r2,q2⟩:=hP;exact hf v u s2 x y H2 I2 r1 r2 q2
def aj7{op:Operator}{r:R2}(ho:OpR X (binaryOp op) r)(ha:PE X a ta)(hb:PE X b tb):PE X (.BinOp a op b pos) (tOp r ta tb):=by
 intro aa s σ H Q I h;exact wpAny_BinOp (afY ha hb I h λv u s2 x y H2 I2 rx ry q=>ho aa s2 σ H2 x y v u Q I2 rx ry q)
def akr{op:UnaryOp}{r:V->Hp->VK->Prop}(ho:UnR X (unaryOp op) r)(ha:PE X a ta):PE X (.UnaryOp op a pos) (tUn r ta):=by
 intro aa s σ H Q I h;exact UnaryOp_ (thn (ha aa s σ H _ I h) λv s1 hP=>by obtain⟨x,H1,I1,r1,q1⟩:=hP;exact ho aa s1 σ H1 x v Q I1 r1 q1)
def X6{op:Operator}{r:R2}(ho:OpR X (inplaceOp op) r){aa:Γ}{s:Shared}{σ:St}{H:Hp}{x y:V}{v u:Value}{Q:VK}(I:Inv X aa σ H s)
 (rx:RelV x v)(ry:RelV y u)(q:r x y H Q):wpAny (model X.prog X.w) X.A (inplaceOp op v u) (EP X aa σ Q) X.xe s:=ho aa s σ H x y v u Q I rx ry q
def opI{f:Value->Value->Sem Value}{C:Int->Int->Prop}{g:Int->Int->Int}
 (rule:∀(i j:Int)(t u:Tok)(s:Shared)(Q:Β)(E:Β),C i j->Q (.int (g i j) s.toks) { s with toks:=s.toks+1 }->wpAny (model X.prog X.w) X.A (f (.int i t) (.int j u)) Q E s) :
  OpR X f (rI C λi j=>.int (g i j)):=by
 intro aa s σ H x y v u Q I rx ry h;obtain⟨i,j,rfl,rfl,hc,q⟩:=h;obtain⟨t,rfl⟩:=rx;obtain⟨t',rfl⟩:=ry;exact rule i j t t' s _ _ hc ⟨.int (g i j),H,I.tok _,⟨_,rfl⟩,q⟩
def alh{f:Value->Value->Sem Value}{g:Int->Int->Int}
 (rule:∀(i j:Int)(t u:Tok)(s:Shared)(Q:Β)(E:Β),Q (.int (g i j) s.toks) { s with toks:=s.toks+1 }->wpAny (model X.prog X.w) X.A (f (.int i t) (.int j u)) Q E s) :
  OpR X f (rI0 λi j=>.int (g i j)):=by
 intro aa s σ H x y v u Q I rx ry h;obtain⟨i,j,rfl,rfl,q⟩:=h;obtain⟨t,rfl⟩:=rx;obtain⟨t',rfl⟩:=ry;exact rule i j t t' s _ _ ⟨.int (g i j),H,I.tok _,⟨_,rfl⟩,q⟩
def adk{f:Value->Value->Sem Value}{g:Int->Int->Bool}
 (rule:∀(i j:Int)(t u:Tok)(s:Shared)(Q:Β)(E:Β),Q (.bool (g i j)) s->wpAny (model X.prog X.w) X.A (f (.int i t) (.int j u)) Q E s) :
  OpR X f (rI0 λi j=>.bl (g i j)):=by
 intro aa s σ H x y v u Q I rx ry h;obtain⟨i,j,rfl,rfl,q⟩:=h;obtain⟨t,rfl⟩:=rx;obtain⟨t',rfl⟩:=ry;exact rule i j t t' s _ _ ⟨.bl (g i j),H,I,rfl,q⟩
def alb(i j:Int):Prop:=0<=j/\j<=1000000/\i.natAbs<2^64
def adp(i j:Int):Prop:=(-(2^64)<i/\i<2^64)\/(-(2^64)<j/\j<2^64)
def adp.ok{i j:Int}(h:adp i j):IntMulOk i j:=by
 rcases h with⟨h1,h2⟩|⟨h1,h2⟩
 .exact .of_left (intBits_le_64 h1 h2)
 .exact .of_right (intBits_le_64 h1 h2)
def agx:OpR X (binaryOp .Add) (rI0 λi j=>.int (i+j)):=alh λ_ _ _ _ _ _ _ q=>add_int q
def agc:OpR X (binaryOp .Sub) (rI0 λi j=>.int (i-j)):=alh λ_ _ _ _ _ _ _ q=>sub_int q
def afq:OpR X (binaryOp .Mult) (rI adp λi j=>.int (i*j)):=opI λ_ _ _ _ _ _ _ hc q=>mul_int q hc.ok
def aeY:OpR X (binaryOp .Mod) (rI (λ_ j=>0<j) λi j=>.int (i%j)):=opI λi j _ _ _ _ _ hc q=>by
 have h1:(0:Int)<j:=hc;exact mod_int' (WU hc) (by rw[Int.fmod_eq_emod_of_nonneg i (XY hc)];exact q)
def aga:OpR X (binaryOp .Pow) (rI alb λi j=>.int (i^j.toNat)):=opI λ_ _ _ _ _ _ _ hc q=>pow_int_small hc.1 hc.2.1 hc.2.2 q
def unI{f:Value->Sem Value}{g:Int->Int}
 (rule:∀(i:Int)(t:Tok)(s:Shared)(Q:Β)(E:Β),Q (.int (g i) s.toks) { s with toks:=s.toks+1 }->wpAny (model X.prog X.w) X.A (f (.int i t)) Q E s) :
  UnR X f (rU λi=>.int (g i)):=by
 intro aa s σ H x v Q I rx h;obtain⟨i,rfl,q⟩:=h;obtain⟨t,rfl⟩:=rx;exact rule i t s _ _ ⟨.int (g i),H,I.tok _,⟨_,rfl⟩,q⟩
def afW:UnR X (unaryOp .USub) (rU λi=>.int (-i)):=unI λ_ _ _ _ _ q=>neg_int q
end
def acK:V->V->Bool
 |.non,.non=>true|.non,.int _=>true|.int _,.non=>true|.non,.bl _=>true|.bl _,.non=>true|.non,.str _=>true|.str _,.non=>true
 |.int _,.int _=>true|.bl _,.bl _=>true|.str _,.str _=>true|.byt _,.byt _=>true
 |.int _,.str _=>true|.str _,.int _=>true|.bl _,.str _=>true|.str _,.bl _=>true
 |_,_=>false
def rEq:R2:=λx y H Q=>acK x y=true/\Q (.bl (decide (x=y))) H
def rNe:R2:=λx y H Q=>acK x y=true/\Q (.bl (!decide (x=y))) H
def V6{i j:Int} : decide (V.int i=V.int j)=(i==j):=by
 rw[Zyz];simp
def abt{i j:Bool} : decide (V.bl i=V.bl j)=(i==j):=by
 rw[Zyz];simp
def Vt{i j:Str} : decide (V.str i=V.str j)=(i==j):=by
 rw[Zyz];simp
def V_{i j:Array UInt8} : decide (V.byt i=V.byt j)=(i.toList==j.toList):=by
 rw[Zyz];cases i;cases j;simp
section
variable{X:Cx}{a b c:Expr}{ta tb tc:TE}{pos:Pos}
def cY{aa:Γ}{σ:St}{H:Hp}{s:Shared}{Q:VK}{k k':Bool}(I:Inv X aa σ H s)(q:Q (.bl k) H)(e:k=k'):EP X aa σ Q (.bool k') s:=by
 subst e;exact⟨.bl k,H,I,rfl,q⟩
def ajc:OpR X (compareOp .Eq) rEq:=by
 intro aa s σ H x y v u Q I rx ry h;obtain⟨hs,q⟩:=h;cases x with
 |non =>
  cases rx;cases y with
  |non=>cases ry;exact PySem.EqNone.eq_none_none (cY I q (by simp))
  |bl j=>cases ry;exact PySem.EqNone.eq_none_bool (cY I q (by simp))
  |int j=>obtain⟨t',rfl⟩:=ry;exact PySem.EqNone.eq_none_int (cY I q (by simp))
  |str j=>obtain⟨t',rfl⟩:=ry;exact PySem.EqNone.eq_none_str (cY I q (by simp))
  |_=>exact absurd (show false=true from hs) bh
 |bl i =>
  cases rx;cases y with
  |non=>cases ry;exact PySem.EqNone.eq_bool_none (cY I q (by simp))
  |bl j=>cases ry;exact eq_bool (cY I q abt)
  |str j=>obtain⟨t',rfl⟩:=ry;exact PySem.EqMixed.eq_bool_str (cY I q (by simp))
  |_=>exact absurd (show false=true from hs) bh
 |int i =>
  obtain⟨t,rfl⟩:=rx;cases y with
  |non=>cases ry;exact PySem.EqNone.eq_int_none (cY I q (by simp))
  |int j=>obtain⟨t',rfl⟩:=ry;exact eq_int (cY I q V6)
  |str j=>obtain⟨t',rfl⟩:=ry;exact PySem.EqMixed.eq_int_str (cY I q (by simp))
  |_=>exact absurd (show false=true from hs) bh
 |str i =>
  obtain⟨t,rfl⟩:=rx;cases y with
  |non=>cases ry;exact PySem.EqNone.eq_str_none (cY I q (by simp))
  |bl j=>cases ry;exact PySem.EqMixed.eq_str_bool (cY I q (by simp))
  |int j=>obtain⟨t',rfl⟩:=ry;exact PySem.EqMixed.eq_str_int (cY I q (by simp))
  |str j=>obtain⟨t',rfl⟩:=ry;exact eq_str (cY I q Vt)
  |_=>exact absurd (show false=true from hs) bh
 |byt i =>
  obtain⟨t,rfl⟩:=rx;cases y with
  |byt j=>obtain⟨t',rfl⟩:=ry;exact PySem.W.eq_bytes (cY I q V_)
  |_=>exact absurd (show false=true from hs) bh
 |_=>cases y<;>exact absurd (show false=true from hs) bh
def ahw:OpR X (compareOp .NotEq) rNe:=by
 intro aa s σ H x y v u Q I rx ry h;obtain⟨hs,q⟩:=h;cases x with
 |non =>
  cases rx;cases y with
  |non=>cases ry;exact PySem.EqNone.ne_none_none (cY I q (by simp))
  |bl j=>cases ry;exact PySem.EqNone.ne_none_bool (cY I q (by simp))
  |int j=>obtain⟨t',rfl⟩:=ry;exact PySem.EqNone.ne_none_int (cY I q (by simp))
  |str j=>obtain⟨t',rfl⟩:=ry;exact PySem.EqNone.ne_none_str (cY I q (by simp))
  |_=>exact absurd (show false=true from hs) bh
 |bl i =>
  cases rx;cases y with
  |non=>cases ry;exact PySem.EqNone.ne_bool_none (cY I q (by simp))
  |bl j=>cases ry;exact ne_bool (cY I q (ZH not abt))
  |str j=>obtain⟨t',rfl⟩:=ry;exact PySem.EqMixed.ne_bool_str (cY I q (by simp))
  |_=>exact absurd (show false=true from hs) bh
 |int i =>
  obtain⟨t,rfl⟩:=rx;cases y with
  |non=>cases ry;exact PySem.EqNone.ne_int_none (cY I q (by simp))
  |int j=>obtain⟨t',rfl⟩:=ry;exact ne_int (cY I q (ZH not V6))
  |str j=>obtain⟨t',rfl⟩:=ry;exact PySem.EqMixed.ne_int_str (cY I q (by simp))
  |_=>exact absurd (show false=true from hs) bh
 |str i =>
  obtain⟨t,rfl⟩:=rx;cases y with
  |non=>cases ry;exact PySem.EqNone.ne_str_none (cY I q (by simp))
  |bl j=>cases ry;exact PySem.EqMixed.ne_str_bool (cY I q (by simp))
  |int j=>obtain⟨t',rfl⟩:=ry;exact PySem.EqMixed.ne_str_int (cY I q (by simp))
  |str j=>obtain⟨t',rfl⟩:=ry;exact ne_str (cY I q (ZH not Vt))
  |_=>exact absurd (show false=true from hs) bh
 |byt i =>
  obtain⟨t,rfl⟩:=rx;cases y with
  |byt j=>obtain⟨t',rfl⟩:=ry;exact PySem.W.ne_bytes (cY I q (ZH not V_))
  |_=>exact absurd (show false=true from hs) bh
 |_=>cases y<;>exact absurd (show false=true from hs) bh
def ajA:OpR X (compareOp .Lt) (rI0 λi j=>.bl (decide (i<j))):=adk λ_ _ _ _ _ _ _ q=>lt_int q
def akC:OpR X (compareOp .LtE) (rI0 λi j=>.bl (decide (i<=j))):=adk λ_ _ _ _ _ _ _ q=>le_int q
def aiX:OpR X (compareOp .Gt) (rI0 λi j=>.bl (decide (j<i))):=adk λ_ _ _ _ _ _ _ q=>gt_int q
def akG:OpR X (compareOp .GtE) (rI0 λi j=>.bl (decide (j<=i))):=adk λ_ _ _ _ _ _ _ q=>ge_int q
def agP:OpR X (compareOp .Is) (λx y H Q=>y=.non/\Q (.bl (decide (x=.non))) H):=by
 intro aa s σ H x y v u Q I rx ry h;obtain⟨rfl,q⟩:=h;cases ry;refine is_none_gen (cY I q ?_);cases x<;>first
  |(cases rx;rfl)
  |(obtain⟨t,rfl⟩:=rx;rfl)
def abY:OpR X (compareOp .IsNot) (λx y H Q=>y=.non/\Q (.bl (!decide (x=.non))) H):=by
 intro aa s σ H x y v u Q I rx ry h;obtain⟨rfl,q⟩:=h;cases ry;refine isnot_none_gen (cY I q ?_);cases x<;>first
  |(cases rx;rfl)
  |(obtain⟨t,rfl⟩:=rx;rfl)
def ZD(b:Expr){op:CmpOp}(h:op≠.In:=by decide)(h2:op≠.NotIn:=by decide):behindInMarks op b=false:=by
 have e1:(op==CmpOp.In)=false:=by cases op<;>first|rfl|exact absurd rfl h
 have e2:(op==CmpOp.NotIn)=false:=by cases op<;>first|rfl|exact absurd rfl h2
 cases b<;>simp[behindInMarks,e1,e2]
def acs{op:CmpOp}{r:R2}(ho:OpR X (compareOp op) r)(ha:PE X a ta)(hb:PE X b tb)(hm:behindInMarks op b=false):PE X (.Compare a [op] [b] pos) (tOp r ta tb):=by
 intro aa s σ H Q I h;exact wpAny_Compare1 (afY ha hb I h λv u s2 x y H2 I2 rx ry q=>ho aa s2 σ H2 x y v u Q I2 rx ry q) hm
def aej(t:TE):TT:=λσ H Q=>t σ H λx H'=>∃k,x=.bl k/\Q k H'
def abZ{op:CmpOp}{r:R2}(ho:OpR X (compareOp op) r)(ha:PE X a ta)(hb:PE X b tb)(hm:behindInMarks op b=false):PT X (.Compare a [op] [b] pos) (aej (tOp r ta tb)):=by
 intro aa s σ H Q I h;refine wpAny_isTrue_Compare1 (thn (ha aa s σ H _ I h) λv s1 ⟨x,H1,I1,r1,q1⟩=>thn (hb aa s1 σ H1 _ I1 q1) λu s2 ⟨y,H2,I2,r2,q2⟩ =>
  thn (ho aa s2 σ H2 x y v u _ I2 r1 r2 q2) λc s3 ⟨z,H3,I3,r3,k,e,q3⟩=>?_) hm
 subst e;cases r3;exact wpAny_truthy_bool ⟨H3,I3,q3⟩
def Us(r r':R2)(ta tb tc:TE):TE:=λσ H Q=>ta σ H λx H1=>tb σ H1 λy H2=>r x y H2 λz H3=>∃k,z=.bl k /\
 (if k=true then tc σ H3 λw' H4=>r' y w' H4 Q else Q (.bl false) H3)
def abv{op du:CmpOp}{r r':R2}(ho:OpR X (compareOp op) r)(df:OpR X (compareOp du) r')(ha:PE X a ta)(hb:PE X b tb)(hc:PE X c tc)
 (hm:lastMarks [op,du] [b,c]=false:=by with_unfolding_all rfl):PE X (.Compare a [op,du] [b,c] pos) (Us r r' ta tb tc):=by
 intro aa s σ H Q I h;refine Compare_chain (thn (ha aa s σ H _ I h) λv s1 ⟨x,H1,I1,r1,q1⟩=>chain_link (thn (hb aa s1 σ H1 _ I1 q1) λu s2 ⟨y,H2,I2,r2,q2⟩ =>
  thn (ho aa s2 σ H2 x y v u _ I2 r1 r2 q2) λd s3 ⟨z,H3,I3,r3,k,e,q3⟩=>?_)) hm
 subst e;cases r3;refine wpAny_truthy_bool ?_;cases k with
 |false=>exact ite_ff ⟨.bl false,H3,I3,rfl,q3⟩
 |true=>exact ite_tt (chain_last (thn (hc aa s3 σ H3 _ I3 q3) λw' s4 hP=>by obtain⟨z',H4,I4,r4,q4⟩:=hP;exact df aa s4 σ H4 y z' u w' Q I4 r2 r4 q4))
def ZG{op du:CmpOp}{r r':R2}(ho:OpR X (compareOp op) r)(df:OpR X (compareOp du) r')(ha:PE X a ta)(hb:PE X b tb)(hc:PE X c tc)
 (hm:lastMarks [op,du] [b,c]=false:=by with_unfolding_all rfl):PT X (.Compare a [op,du] [b,c] pos) (aej (Us r r' ta tb tc)):=by
 intro aa s σ H Q I h;refine isTrue_chain (thn (ha aa s σ H _ I h) λv s1 ⟨x,H1,I1,r1,q1⟩=>test_link (thn (hb aa s1 σ H1 _ I1 q1) λu s2 ⟨y,H2,I2,r2,q2⟩ =>
  thn (ho aa s2 σ H2 x y v u _ I2 r1 r2 q2) λd s3 ⟨z,H3,I3,r3,k,e,q3⟩=>?_)) hm
 subst e;cases r3;refine wpAny_truthy_bool ?_;cases k with
 |false =>
  obtain⟨k',e',q'⟩:=q3;cases e';exact ite_ff ⟨H3,I3,q'⟩
 |true =>
  refine ite_tt (test_last (thn (hc aa s3 σ H3 _ I3 q3) λw' s4 ⟨z',H4,I4,r4,q4⟩=>thn (df aa s4 σ H4 y z' u w' _ I4 r2 r4 q4) λd' s5 hP=>?_));obtain⟨z2,H5,I5,r5,k2,e2,q5⟩:=hP;subst e2;cases r5;exact wpAny_truthy_bool ⟨H5,I5,q5⟩
def agN(K:Frag)(x:V)(H:Hp)(k:Bool):Prop :=
 match x with
 |.non=>k=false
 |.bl b=>k=b
 |.int i=>k=(i != 0)
 |.str y=>y.length<=sizeLine/\k=((y.length:Int) != 0)
 |.byt y=>y.size<=sizeLine/\k=((y.size:Int) != 0)
 |.ref p=>(∃xs,SqL K H p xs/\k = !xs.isEmpty)\/(∃xs,SqT K H p xs/\k = !xs.isEmpty)\/∃kvs,H p=some (.dK kvs)/\k = !kvs.isEmpty
 |_=>False
def TF{κ:Type}{kvs:List (κ×V)}{vs:List (κ×Value)}(r:KV kvs vs):(!vs.isEmpty) = !kvs.isEmpty:=by
 cases r<;>rfl
def GR{xs:Ε}{its:Δ}(r:Vals xs its):(!its.toArray.isEmpty) = !xs.isEmpty:=by
 cases r<;>simp
def uW:(sizeLine:Nat)<2^63:=by rw[sizeLine_eq];decide
def Zg:amH X (λx H Q=>∃k,agN X.K x H k/\Q k H):=by
 intro aa s σ H x v Q I rx h;obtain⟨k,e,q⟩:=h;have hl:=uW;have hs:sizeLine=16777216:=sizeLine_eq;cases x with
 |non =>
  cases rx;have e':k=false:=e;subst e';exact truthy_none ⟨H,I,q⟩
 |bl b =>
  cases rx;have e':k=b:=e;subst e';exact wpAny_truthy_bool ⟨H,I,q⟩
 |int i =>
  obtain⟨t,rfl⟩:=rx;have e':k=(i != 0):=e;subst e';exact PySem.P.truthy_int ⟨H,I,q⟩
 |str y =>
  obtain⟨t,rfl⟩:=rx;obtain⟨hy,e'⟩ : y.length<=sizeLine/\k=((y.length:Int) != 0):=e;subst e';exact PySem.P.truthy_str (by lia) ⟨H,I.tok _,q⟩
 |byt y =>
  obtain⟨t,rfl⟩:=rx;obtain⟨hy,e'⟩ : y.size<=sizeLine/\k=((y.size:Int) != 0):=e;subst e';exact PySem.W.truthy_bytes (aL hy (by decide)) ⟨H,I.tok _,q⟩
 |ref p =>
  cases rx;have e':(∃xs,SqL X.K H p xs/\k = !xs.isEmpty)\/(∃xs,SqT X.K H p xs/\k = !xs.isEmpty)\/∃kvs,H p=some (.dK kvs)/\k = !kvs.isEmpty:=e;rcases e' with⟨xs,hx,e'⟩|⟨xs,hx,e'⟩|⟨kvs,hx,e'⟩
  .subst e';obtain⟨its,r,pl,hz⟩:=I.list hx;have a9:=r.length;exact wpAny_truthy_list pl.isList (by simp only[aX];lia) ⟨H,I.tok _,by rw[GR r];exact q⟩
  .subst e';obtain⟨its,r,pl,hz⟩:=I.tuple hx;have a9:=r.length;exact truthy_tuple pl (by simp only[aX];lia) ⟨H,I.tok _,by rw[GR r];exact q⟩
  .subst e';obtain⟨hz,hS,vs,r,m⟩ : kvs.length<=sizeLine/\(p==sysModules)=false/\∃vs,KV kvs vs/\s.heap.DictOf (jH X.prog X.w) p vs:=I.hok p _ hx;have a9:kvs.length=vs.length:=Paired.length r;exact wpAny_truthy_dict hS m (by lia) ⟨H,I.tok _,by rw[TF r];exact q⟩
 |_=>exact(show False from e).elim
def aaJ(ha:PE X a ta)(he:∀b7,isTrue a X.env b7=(do let v <- b7;standAt a.pos;holding [v] (truthy v))) :
  PT X a (λσ H Q=>ta σ H λx H'=>∃k,agN X.K x H' k/\Q k H'):=by
 intro aa s σ H Q I h;exact isTrue_plain (thn (ha aa s σ H _ I h) λv s1 hP=>by obtain⟨x,H1,I1,r1,q1⟩:=hP;exact Zg aa s1 σ H1 x v Q I1 r1 q1) (he _)
def S7:OpR X (binaryOp .Add) (λx y H Q=>∃i j,x=.str i/\y=.str j/\i.length+j.length<=sizeLine/\Q (.str (i++j)) H):=by
 intro aa s σ H x y v u Q I rx ry h;obtain⟨i,j,rfl,rfl,hz,q⟩:=h;obtain⟨t,rfl⟩:=rx;obtain⟨t',rfl⟩:=ry;exact add_str (λt' tk=>⟨.str (i++j),H,I.tok _,⟨_,rfl⟩,q⟩) hz
def vals1{x:V}{us:Δ}(r:Vals [x] us):∃u,us=[u]/\RelV x u:=by
 cases r with
 |cons r1 r2=>cases r2;exact⟨_,rfl,r1⟩
def aaA:jq X (.builtin "abs") (λxs H Q=>∃i,xs=[.int i]/\Q (.int (if i<0 then -i else i)) H):=by
 intro aa s σ H xs us Q I r h;obtain⟨i,rfl,q⟩:=h;obtain⟨u,rfl,t,rfl⟩:=vals1 r;exact call_abs_int λu tk=>⟨.int (if i<0 then -i else i),H,I.tok _,⟨_,rfl⟩,q⟩
def Xh:jq X (.type "int") (λxs H Q=>(∃i,xs=[.int i]/\Q (.int i) H)\/∃k,xs=[.bl k]/\Q (.int (if k then 1 else 0)) H):=by
 intro aa s σ H xs us Q I r h;rcases h with⟨i,rfl,q⟩|⟨k,rfl,q⟩
 .obtain⟨u,rfl,t,rfl⟩:=vals1 r;exact call_int_int ⟨.int i,H,I,⟨_,rfl⟩,q⟩
 .obtain⟨u,rfl,r1⟩:=vals1 r;cases r1;exact call_int_bool ⟨.int (if k then 1 else 0),H,I.tok _,⟨_,rfl⟩,q⟩
end
structure Tz(h:Heap)(x dx C:Addr)(mA:Str->Ψ):Prop where
 obj:h.get? x=some (instObj C dx)
 ns:h.Ns1 dx mA
 ne:dx≠x
def Le{h:Heap}{dx:Addr}{mA:Str->Ψ}(n:h.Ns1 dx mA):∃od,h.get? dx=some od/\∀name,lookIn name od=some (mA name):=by
 obtain⟨o,es,ep,ho,hd,hk,_,hm⟩:=n;refine⟨o,ho,λname=>?_⟩;have e:=hm name;unfold nsFind findBy at e;rw[<- Array.find?_toList]at e;unfold lookIn;rw[hd];dsimp only;split
 .rename_i y q
  rw[q]at e;exact ZH some e
 .rename_i q
  rw[q]at e;have a:es.toList.any (·.refKey)=false:=by
   rw[List.any_eq_false];intro y hy;obtain⟨z,t,ir⟩:=hk y (Array.mem_toList_iff.mp hy);simp[DictEntry.refKey,ir]
  have a':¬es.toList.any (·.refKey)=true:=by rw[a];exact bh
  rw[ZZ a'];exact ZH some e
def Tz.look{h:Heap}{x dx C:Addr}{mA:Str->Ψ}(I:Tz h x dx C mA):∃od,PySem.W.InstAt h x (instObj C dx) C (some od)/\∀name,lookIn name od=some (mA name) :=
 let⟨od,ho,hl⟩:=Le I.ns
 ⟨od,⟨I.obj,rfl,rfl,ho⟩,hl⟩
section
variable{prog:Program}{w:World}{A:Around}{E:Β}{s:Shared}{K:Frag}{x dx C f:Addr}{mA:Str->Ψ}{name:Str}{v:Value}
def get_map{qA:Bool}{Q:Β}(X:K.In s.heap)(I:Tz s.heap x dx C mA)(hg:plainGet K C name=true)(hh:hasDictIn K C=true)
 (ha:findIn K (.ref C) name=some none)(hv:mA name=some v)(nv:handedIn v=true)(h:Q v { s with toks:=s.toks+1 }) :
  wpAny (model prog w) A (getAttr (.ref x) name qA) Q E s:=by
 obtain⟨od,J,hl⟩:=I.look;exact PySem.W.get_value X J (plainGet_of hg).1 (findObj_own hh ha rfl (by rw[hl,hv])) nv h
def aa6{pl:Sem Bool}{Q:Value×Δ->Shared->Prop}(X:K.In s.heap)(I:Tz s.heap x dx C mA)(hg:plainGet K C name=true)
 (hf:findIn K (.ref C) name=some (some (.ref f)))(ht:isFn K (.ref f)=true)(hv:mA name=none)(h:Q (.ref f,[.ref x]) s) :
  wpAny (model prog w) A (getMethod (.ref x) name pl) Q E s:=by
 obtain⟨od,J,hl⟩:=I.look;exact PySem.W.method_fn X J (plainGet_of hg).1 (plainGet_of hg).2 hf (beq_iff_eq.mp ht) (by show(lookIn name od).map (·.isSome)=some false;rw[hl,hv];rfl) h
def ad8{ns:Θ}{Q:Unit->Shared->Prop}(X:K.In s.heap)(I:Tz s.heap x dx C mA)
 (hs:findIn K (.ref C) "__setattr__"=some (some (.builtin "object.__setattr__")))(hp:plainOver K C=true)(ht:takerIn K C name=some none)(hh:hasDictIn K C=true)
 (hw:PySem.Within mA ns)(hsz:ns.length<=sizeLine)
 (h:∀h',Tz h' x dx C (λy=>if y=name then some v else mA y)->Heap.SameBut dx s.heap h'->Q () { s with heap:=h',toks:=s.toks+2 }) :
  wpAny (model prog w) A (setAttr (.ref x) name v) Q E s:=by
 obtain⟨od,J,hl⟩:=I.look;refine set_plain X J hs (PySem.W.osa_open (s:={ s with toks:=s.toks+1 }) (r:=none) X J hp ht λb=>?_);obtain⟨cd,hc,br⟩:=PySem.W.any_some hh;have hx:s.heap.get? x=some ⟨.ref C,some dx,.plain,#[]⟩:=I.obj;refine ZU (ZT (ZU (ZU (wpAny_loadPart hx (ZU (PySem.W.Looks.here (s:={ s with toks:=s.toks+1 }) (looks_clsIn X hc) ?_))))));rw[br];refine ZT (a:=some dx) (ZU (ZT (ZU ?_)));refine wpAny_nsSet1 (s:={ s with toks:=s.toks+1 }) I.ns λh' i7 dv=>?_;obtain⟨oD,esD,epD,n9,pi,iL⟩:=i7.count (PySem.Within.cons name v hw);refine ZU (wpAny_lookBehind n9 (by rw[pi];exact pastItsLine_dict (aL iL (by rw[List.length_cons];exact Nat.succ_le_succ hsz))) ?_);exact ZT (h _ ⟨(dv.2 _ (Ne.symm I.ne)).trans I.obj,i7,I.ne⟩ dv)
def aa2{R:Result->Shared->Prop}{vs:Δ}{kw:List (Str×Value)}(X:K.In s.heap)(hm:makesIn K C=true)
 (hi:findIn K (.ref C) "__init__"=some (some (.ref f)))(hf:typeIn K (.ref f)=some (.type "function"))
 (h:codeAny (model prog w) (A.under (.builtin "type.__call__" ⟨.ref C::vs,kw⟩)) (.call (.ref f) ⟨.ref (s.heap.objs.size+1)::vs,kw⟩) (PySem.W.InitBack (s.heap.objs.size+1) R)
   { s with heap:=(s.heap.push emptyDict).push (instObj C s.heap.objs.size) }) :
  codeAny (model prog w) A (.call (.ref C) ⟨vs,kw⟩) R s:=by
 obtain⟨hh,g,d,t,os⟩:=s;exact PySem.W.make_core (PySem.W.makes_of X hm) (looks_findIn X hi) (λself=>PySem.W.bind_fn X self hf) (.inl rfl) h
end
def uH(f:Str)(v:V):List (Str×V)->List (Str×V)
 |[]=>[(f,v)]
 |(g,x)::r=>if g=f then(g,v)::r else(g,x)::uH f v r
theorem Ef(f g:Str)(v:V):∀fs:List (Str×V),(uH f v fs).lookup g=if g=f then some v else fs.lookup g
 |[]=>by
  show List.lookup g [(f,v)]=_;by_cases h:g=f
  .have hb:(g==f)=true:=beq_iff_eq.mpr h;simp only[List.lookup,hb,ZY h]
  .have hb:(g==f)=false:=beq_eq_false_iff_ne.mpr h;simp only[List.lookup,hb,ZZ h]
 |(k,x)::r=>by
  have ih:=Ef f g v r;rw[show uH f v ((k,x)::r)=(if k=f then(k,v)::r else(k,x)::uH f v r)from rfl];by_cases hk:k=f
  .rw[ZY hk];by_cases h:g=k
   .have hb:(g==k)=true:=beq_iff_eq.mpr h;simp only[List.lookup,hb,ZY (h.trans hk)]
   .have hb:(g==k)=false:=beq_eq_false_iff_ne.mpr h;simp only[List.lookup,hb,ZZ (λe:g=f=>h (e.trans hk.symm))]
  .rw[ZZ hk];by_cases h:g=k
   .have hb:(g==k)=true:=beq_iff_eq.mpr h;simp only[List.lookup,hb,ZZ (λe:g=f=>hk (h.symm.trans e))]
   .have hb:(g==k)=false:=beq_eq_false_iff_ne.mpr h;simp only[List.lookup,hb];exact ih
theorem Dz(f:Str)(v:V):∀fs:List (Str×V),f∈(uH f v fs).map (·.1)/\∀g,g∈fs.map (·.1)->g∈(uH f v fs).map (·.1)
 |[]=>⟨by simp[uH],λg h=>by simp at h⟩
 |(k,x)::r=>by
  obtain⟨i1,i2⟩:=Dz f v r;rw[show uH f v ((k,x)::r)=(if k=f then(k,v)::r else(k,x)::uH f v r)from rfl];by_cases hk:k=f
  .rw[ZY hk];subst hk;exact⟨by simp,λg h=>by simpa using h⟩
  .rw[ZZ hk];refine⟨?_,λg h=>?_⟩
   .rw[List.map_cons];exact aJ _ i1
   .rw[List.map_cons]at h ⊢;rcases YU.mp h with e|e
    .exact YU.mpr (.inl e)
    .exact aJ _ (i2 g e)
theorem DY(f:Str)(v:V):∀fs:List (Str×V),(uH f v fs).length<=fs.length+1
 |[]=>by simp[uH]
 |(k,x)::r=>by
  have ih:=DY f v r;rw[show uH f v ((k,x)::r)=(if k=f then(k,v)::r else(k,x)::uH f v r)from rfl];by_cases hk:k=f
  .rw[ZY hk,List.length_cons,List.length_cons];exact Xs _
  .rw[ZZ hk,List.length_cons,List.length_cons];exact Nat.succ_le_succ ih
def xV.some_of{v:V}{o:Ψ}(r:xV (some v) o):∃u,o=some u/\RelV v u:=by
 cases o with
 |none=>exact(show False from r).elim
 |some u=>exact⟨u,rfl,r⟩
def xV.none_of{o:Ψ}(r:xV none o):o=none:=by
 cases o with
 |none=>rfl
 |some u=>exact(show False from r).elim
def KN{v:V}{u:Value}(r:RelV v u):handedIn u=true:=by
 cases v with
 |non=>cases(show u=Value.none from r);rfl
 |bl b=>cases(show u=Value.bool b from r);rfl
 |int i=>obtain⟨t,e⟩:=(show ∃t,u=Value.int i t from r);cases e;rfl
 |str x=>obtain⟨t,e⟩:=(show ∃t,u=Value.str x t from r);cases e;rfl
 |byt b=>obtain⟨t,e⟩:=(show ∃t,u=Value.bytes b t from r);cases e;rfl
 |flt b=>obtain⟨t,e⟩:=(show ∃t,u=Value.float b t from r);cases e;rfl
 |ref a=>cases(show u=Value.ref a from r);rfl
 |ty n=>cases(show u=Value.type n from r);rfl
section
variable{P:Program}{w:World}{H H':Hp}{h h':Heap}{a C dx:Addr}{fs fs':List (Str×V)}
def Gm(hok:HOk P w H h)(e:H a=some (.ins C dx fs)):∃mA,Tz h a dx C mA/\(∀f,xV (fs.lookup f) (mA f))/\PySem.Within mA (fs.map (·.1))/\fs.length<=1000/\H dx=some (.own a):=by
 obtain⟨d,z,ne,ob,mA,n,r,q⟩:=(show eX P w H h a (.ins C dx fs)from hok a _ e);exact⟨mA,⟨ob,n,ne⟩,r,q,z,d⟩
end
structure Cls(K:Frag)(C:Addr):Prop where
 pg:plainGet K C Str.empty=true
 hd:hasDictIn K C=true
 po:plainOver K C=true
 sa:findIn K (.ref C) "__setattr__"=some (some (.builtin "object.__setattr__"))
def Cls.get{K:Frag}{C:Addr}(c:Cls K C)(f:Str):plainGet K C f=true:=c.pg
def bZ(K:Frag)(C:Addr)(f:Str):Prop:=findIn K (.ref C) f=some none
def bZ.taker{K:Frag}{C:Addr}{f:Str}(n:bZ K C f):takerIn K C f=some none:=by
 unfold takerIn;rw[show findIn K (.ref C) f=some none from n]
 rfl
structure Meth(K:Frag)(C:Addr)(m:Str)(f:Addr):Prop where
 at_:findIn K (.ref C) m=some (some (.ref f))
 fn:isFn K (.ref f)=true
 kp:keepIn K (.ref f)=true
section
variable{X:Cx}{aa:Γ}{σ:St}{H:Hp}{s:Shared}{a C dx:Addr}{fs:List (Str×V)}{f:Str}{v:V}{A:Around}{E:Β}
def UL{b:Bool}{Q:Β}(I:Inv X aa σ H s)(e:H a=some (.ins C dx fs))(c:Cls X.K C)(n:bZ X.K C f)(l:fs.lookup f=some v)
 (h:∀u s',Inv X aa σ H s'->RelV v u->Q u s'):wpAny (model X.prog X.w) A (getAttr (.ref a) f b) Q E s:=by
 obtain⟨mA,O,r,_,_,_⟩:=Gm I.hok e;obtain⟨u,hu,ru⟩:=xV.some_of (v:=v) (o:=mA f) (by rw[<- l];exact r f);exact get_map I.kIn O (c.get f) c.hd n hu (KN ru) (h u _ (I.tok _) ru)
def zU{m:Str}{g:Addr}{pl:Sem Bool}{Q:Value×Δ->Shared->Prop}(I:Inv X aa σ H s)(e:H a=some (.ins C dx fs))(c:Cls X.K C)(k:Meth X.K C m g)(l:fs.lookup m=none)
 (h:Q (.ref g,[.ref a]) s):wpAny (model X.prog X.w) A (getMethod (.ref a) m pl) Q E s:=by
 obtain⟨mA,O,r,_,_,_⟩:=Gm I.hok e;have hn:mA m=none:=xV.none_of (by rw[<- l];exact r m);exact aa6 I.kIn O (c.get m) k.at_ k.fn hn h
def Ve{y:V}{u:Value}{Q:Unit->Shared->Prop}(I:Inv X aa σ H s)(e:H a=some (.ins C dx fs))(c:Cls X.K C)(n:bZ X.K C f)(hl:fs.length<1000)(ry:RelV y u)
 (h:∀s',Inv X aa σ (upd H a (.ins C dx (uH f y fs))) s'->Q () s'):wpAny (model X.prog X.w) A (setAttr (.ref a) f u) Q E s:=by
 obtain⟨mA,O,r,wi,_,ho⟩:=Gm I.hok e;have hz:(fs.map (·.1)).length<=sizeLine:=by rw[ak,sizeLine_eq];exact aL (Y2 hl) (by decide)
 refine ad8 I.kIn O c.sa c.po n.taker c.hd wi hz λh' O' sb=>h _ ?_;have hd:∃o,h'.get? dx=some o:=by obtain⟨o,_,_,e',_⟩:=O'.ns;exact⟨o,e'⟩
 refine I.write (x:=a) (e:=dx) (by rw[e];exact True.intro) (.inr ho) (λb q hb z=>(sb.2 b hb).trans z) hd ?_;refine⟨by rw[bO O.ne];exact ho,?_,O.ne,O'.obj,_,O'.ns,λg=>?_,λg hg=>?_⟩
 .have:=DY f y fs;lia
 .show xV ((uH f y fs).lookup g) (if g=f then some u else mA g);rw[Ef];by_cases q:g=f
  .rw[ZY q,ZY q];exact ry
  .rw[ZZ q,ZZ q];exact r g
 .by_cases q:g=f
  .rw[q];exact(Dz f y fs).1
  .refine(Dz f y fs).2 g (wi g λz=>hg ?_);show(if g=f then some u else mA g)=none;rw[ZZ q];exact z
def Inv.made(I:Inv X aa σ H s):Inv X aa σ (upd (upd H s.heap.objs.size (.own (s.heap.objs.size+1))) (s.heap.objs.size+1) (.ins C s.heap.objs.size []))
  { s with heap:=(s.heap.push emptyDict).push (instObj C s.heap.objs.size) }:=by
 have e1:(s.heap.push emptyDict).get? s.heap.objs.size=some emptyDict:=aW s.heap rfl;have e2:((s.heap.push emptyDict).push (instObj C s.heap.objs.size)).get? (s.heap.objs.size+1)=some (instObj C s.heap.objs.size):=by
  have:=aW (s.heap.push emptyDict) (o:=instObj C s.heap.objs.size) rfl;rwa[Heap.size_push]at this
 have e3:(s.heap.push emptyDict).Ns s.heap.objs.size (λ_=>none):=⟨emptyDict,#[],_,e1,rfl,(λe he=>absurd he (by simp)),λ_=>rfl⟩;have I1:=I.laid (a:=s.heap.objs.size) (o:=.own (s.heap.objs.size+1)) (h':=s.heap.push emptyDict) (t':=s.toks) (λb u q=>aH _ q) (aG _) ⟨_,e1⟩;refine I1.laid (a:=s.heap.objs.size+1) (o:=.ins C s.heap.objs.size []) (t':=s.toks) (λb u q=>aH _ q) (WG (Heap.size_push _ _)) ?_;have ne:s.heap.objs.size≠s.heap.objs.size+1:=aQ (X0 _);refine⟨by rw[bO ne,bY],aZ _,ne,e2,λ_=>none,(Heap.Ns1.of_empty e3).at λo q=>aH _ q,λ_=>True.intro,λy hy=>absurd rfl hy⟩
def Wv{prog:Program}{w:World}{env:Env}{e:Expr}{f:Str}{pos:Pos}{s:Shared}{Q:Β}(hb:attributeBase e f env (eval e env)=eval e env)
 (h:wpAny (model prog w) A (eval e env) (λo s₁=>wpAny (model prog w) A (getAttr o f true) Q E s₁) E s):wpAny (model prog w) A (eval (.Attribute e f pos) env) Q E s :=
 Attribute_any_ h (by rw[arm_eval_Attribute,hb])
end
def alH(K:Frag)(ta:TE)(f:Str):TE:=λσ H Q=>ta σ H λx H1=>∃a C dx fs v,x=.ref a/\H1 a=some (.ins C dx fs)/\Cls K C/\bZ K C f/\fs.lookup f=some v/\Q v H1
def anl(K:Frag)(ta tv:TE)(f:Str):TS:=λD σ H=>tv σ H λy H1=>ta σ H1 λx H2=>∃a C dx fs,x=.ref a/\H2 a=some (.ins C dx fs)/\Cls K C/\bZ K C f/\fs.length<1000 /\
 D.nx σ (upd H2 a (.ins C dx (uH f y fs)))
section
variable{X:Cx}{o e ar:Expr}{f:Str}{pos ay ax:Pos}{ta tv:TE}
abbrev zt(X:Cx)(a:Expr)(b:Str):Prop:=attributeBase a b X.env (eval a X.env)=eval a X.env
def aa7(he:PE X e ta)(hb:zt X e f):PE X (.Attribute e f pos) (alH X.K ta f):=by
 intro aa s σ H Q I h;refine Wv hb (thn (he aa s σ H _ I h) λu s1 h=>?_);obtain⟨x,H1,I1,rx,a,C,dx,fs,v,rfl,ea,c,n,l,q⟩:=h;obtain rfl:u=Value.ref a:=rx;exact UL I1 ea c n l λu' s2 I2 ru=>⟨v,H1,I2,ru,q⟩
def agF(ha:PE X o ta)(hv:PE X ar tv)(hs:swapsWith ar (some (.Attribute o f ay)) pos.line X.env=pure false):PS X (.Assign [.Attribute o f ay] ar pos) (anl X.K ta tv f):=by
 intro aa s σ H D I h;refine plainObj_wpAny_Assign_Attribute (thn (hv aa s σ H _ I h) λu s1 ⟨y,H1,I1,ry,q⟩=>thn (ha aa s1 σ H1 _ I1 q) λov s2 h=>?_) hs;obtain⟨x,H2,I2,rx,a,C,dx,fs,rfl,ea,c,n,l,q2⟩:=h;obtain rfl:ov=Value.ref a:=rx;exact Ve I2 ea c n l ry λs3 I3=>⟨σ,_,I3,q2⟩
end
section
variable{X:Cx}{aa:Γ}{σ:St}{H:Hp}{s:Shared}{A:Around}{E:Β}{Q:Β}{c:Value}{b:Bool}
inductive Df(K:Frag)(H:Hp):V->Value->Prop where
 |non:Df K H .non (.type "NoneType")
 |bl (x:Bool):Df K H (.bl x) (.type "bool")
 |int (i:Int):Df K H (.int i) (.type "int")
 |str (x:Str):Df K H (.str x) (.type "str")
 |flt (x:UInt64):Df K H (.flt x) (.type "float")
 |lst {a:Addr}{xs:Ε} (e:H a=some (.lst xs)):Df K H (.ref a) (.type "list")
 |frz {a:Addr}{o:Obj}{xs:Ε} (e:H a=some (.frz o (.lst xs))):Df K H (.ref a) (.type "list")
 |tup {a:Addr}{xs:Ε} (e:H a=some (.tup xs)):Df K H (.ref a) (.type "tuple")
 |dK {a:Addr}{kvs:List (Key×V)} (e:H a=some (.dK kvs)):Df K H (.ref a) (.type "dict")
 |ins {a C dx:Addr}{fs:List (Str×V)} (e:H a=some (.ins C dx fs)) (cl:Cls K C) (ha:findIn K (.ref C) "__class__"=some (some (.builtin "object.__class__")))
   (hn:specialIn K (.builtin "object.__class__") "__get__"=some (some (.builtin "getset_descriptor.__get__"))) (htk:PySem.W.takesIn K (.builtin "object.__class__")=some true)
   (hm:mroIn K C (.type "object")=some true):Df K H (.ref a) (.ref C)
def Yt{x:V}{u t:Value}(I:Inv X aa σ H s)(rx:RelV x u)(ty:Df X.K H x t)(e:kitOne X.K t c=some b)(h:∀tk,Q (.bool b) { s with toks:=tk }) :
  wpAny (model X.prog X.w) A (call (.builtin "isinstance") [u,c]) Q E s:=by
 cases ty with
 |non=>cases(show u=Value.none from rx);exact kia_one PySem.W.kitx_none I.kIn True.intro e (λz=>nomatch z) h
 |bl y=>cases(show u=Value.bool y from rx);exact kia_one PySem.W.kitx_bool I.kIn True.intro e (λz=>nomatch z) h
 |int i=>obtain⟨t,q⟩:=(show ∃t,u=Value.int i t from rx);cases q;exact kia_one PySem.W.kitx_int I.kIn True.intro e (λz=>nomatch z) h
 |str y=>obtain⟨t,q⟩:=(show ∃t,u=Value.str y t from rx);cases q;exact kia_one PySem.W.kitx_str I.kIn True.intro e (λz=>nomatch z) h
 |flt y=>obtain⟨t,q⟩:=(show ∃t,u=Value.float y t from rx);cases q;exact kia_one PySem.W.kitx_float I.kIn True.intro e (λz=>nomatch z) h
 |@lst a xs ea =>
  cases(show u=Value.ref a from rx);obtain⟨_,_,n,_,h1⟩:=(show eX X.prog X.w H s.heap a (.lst xs)from I.hok a _ ea);exact kia_one kitx_list I.kIn ⟨_,h1,rfl⟩ e (λz=>nomatch z) h
 |@frz a ob xs ea =>
  cases(show u=Value.ref a from rx);obtain⟨_,_,_,n,_,h1⟩:=(show eX X.prog X.w H s.heap a (.frz ob (.lst xs))from I.hok a _ ea);exact kia_one kitx_list I.kIn ⟨_,h1,rfl⟩ e (λz=>nomatch z) h
 |@tup a xs ea =>
  cases(show u=Value.ref a from rx);obtain⟨_,_,_,p⟩:=(show eX X.prog X.w H s.heap a (.tup xs)from I.hok a _ ea);obtain⟨o,h1,h2,_⟩:=p;exact kia_one kitx_tuple I.kIn ⟨o,h1,h2⟩ e (λz=>nomatch z) h
 |@dK a kvs ea =>
  cases(show u=Value.ref a from rx);obtain⟨_,_,vs,_,p⟩:=(show eX X.prog X.w H s.heap a (.dK kvs)from I.hok a _ ea);obtain⟨o,es,ep,h1,h2,_⟩:=p;exact kia_one PySem.W.kitx_dict I.kIn ⟨o,h1,h2.1⟩ e (λz=>nomatch z) h
 |@ins a C dx fs ea cl ha hn htk hm =>
  cases(show u=Value.ref a from rx);obtain⟨mA,O,_⟩:=Gm I.hok ea;obtain⟨od,J,_⟩:=O.look;exact kia_one (PySem.W.kitx_own (cl.get _) cl.hd ha hn htk hm) I.kIn J e (λz=>nomatch z) h
end
structure dh(k:Nat)(A:Around):Prop where
 hd:A.handled=none
 dp:A.depth+3*k+5<recursionLimit
 un:A.units+16*k+200<cLine
def dh.mono{j k:Nat}{A:Around}(r:dh k A)(h:j<=k):dh j A:=⟨r.hd,by have:=r.dp;lia,by have:=r.un;lia⟩
def dh.md{k n:Nat}{A:Around}(h:dh n A)(e:k<=n:=by decide):dh k A:=h.mono e
def dh.deeper{k:Nat}{A:Around}(r:dh (k+1) A)(env:Env):dh k (A.deeper env) :=
 ⟨r.hd,by have:=r.dp;show A.depth+1+3*k+5<_;lia,by have:=r.un;show A.units+3+16*k+200<_;lia⟩
def T4{A:Around}{C:Addr}{us:Δ}{kw:List (Str×Value)} : (A.under (.builtin "type.__call__" ⟨.ref C::us,kw⟩)).depth=A.depth+1:=by
 first|rfl|simp[Around.under,Code.weight,Code.isCreation,Code.isGuard,Code.isCaller,Code.frames,Code.isFrame,guardIds]
def Vj{A:Around}{C:Addr}{us:Δ}{kw:List (Str×Value)} : (A.under (.builtin "type.__call__" ⟨.ref C::us,kw⟩)).units=A.units+1:=by
 first|rfl|simp[Around.under,Code.cUnits,Code.frames,Code.isFrame]
def dh.make{k:Nat}{A:Around}(r:dh (k+1) A)(C:Addr)(us:Δ)(kw:List (Str×Value)):dh k (A.under (.builtin "type.__call__" ⟨.ref C::us,kw⟩)) :=
 ⟨r.hd,by have:=r.dp;rw[T4];lia,by have:=r.un;rw[Vj];lia⟩
def dh.depth{k:Nat}{A:Around}(r:dh k A):A.depth<recursionLimit:=by have:=r.dp;lia
def dh.units{k:Nat}{A:Around}(r:dh k A):A.units+64<cLine:=by have:=r.un;lia
def af4:TA:=λ_ H Q=>Q [] H
def aiK(ta:TE)(tr:TA):TA:=λσ H Q=>ta σ H λx H1=>tr σ H1 λxs H2=>Q (x::xs) H2
section
variable{X:Cx}{e:Expr}{es:List Expr}{te:TE}{t:TA}{pos:Pos}
def jf:PA X [] af4:=λ_ _ _ _ H Q I h=>Calls.spliced_nil ⟨[],H,I,.nil,h⟩
abbrev zb(X:Cx)(a:Expr)(b:List Expr):Prop:=starEach (a::b) X.env=(false,eval a X.env)::starEach b X.env
def cA(ha:PE X e te)(hr:PA X es t)(hs:zb X e es:=by rfl):PA X (e::es) (aiK te t):=by
 intro pos aa s σ H Q I h;rw[hs];show wpAny _ _ (spliced ((false,eval e X.env)::backTo pos (starEach es X.env))) _ _ s;refine Calls.spliced_cons (thn (ha aa s σ H _ I h) λu s1 hP=>?_);obtain⟨x,H1,I1,r1,q1⟩:=hP;exact thn (hr pos aa s1 σ H1 _ I1 q1) λus s2 hP=>by obtain⟨xs,H2,I2,r2,q2⟩:=hP;exact⟨x::xs,H2,I2,.cons r1 r2,q2⟩
def alQ(t:TA):TE:=λσ H Q=>t σ H λxs H1=>xs.length<=sizeLine/\∀p,H1 p=none->Q (.ref p) (upd H1 p (.tup xs))
def al6(t:TA):TE:=λσ H Q=>t σ H λxs H1=>xs.length<=sizeLine/\∀p,H1 p=none->Q (.ref p) (upd H1 p (.lst xs))
def aaS{x1}(h:PA X es t):PE X (.Tuple es x1 pos) (alQ t):=by
 intro aa s σ H Q I hq;refine wpAny_Tuple_spliced (thn (h pos aa s σ H _ I hq) λus s1 ⟨xs,H1,I1,r,z,q⟩=>⟨by rw[<- r.length];exact z,?_⟩);have hf:H1 s1.heap.objs.size=none:=I1.hok.fresh (aG _);refine⟨.ref s1.heap.objs.size,upd H1 s1.heap.objs.size (.tup xs),I1.laid (t':=s1.toks) (λb u e=>aH _ e) (aG _) ?_,rfl,q _ hf⟩;exact⟨z,us,r,⟨_,aW _ rfl,rfl,_,rfl⟩⟩
def Tv(h:PA X es t):PE X (.List es pos) (al6 t):=by
 intro aa s σ H Q I hq;refine wpAny_List_spliced (thn (h pos aa s σ H _ I hq) λus s1 ⟨xs,H1,I1,r,z,q⟩=>⟨by rw[<- r.length];exact z,?_⟩);have hf:H1 s1.heap.objs.size=none:=I1.hok.fresh (aG _);refine⟨.ref s1.heap.objs.size,upd H1 s1.heap.objs.size (.lst xs),I1.laid (t':=s1.toks) (λb u e=>aH _ e) (aG _) ?_,rfl,q _ hf⟩;exact⟨z,us,0,r,aW _ rfl⟩
end
abbrev Sp:=Ε->Hp->VK->XK->Prop
abbrev CXT:=List Env->Hp->Shared->XK->Value->Shared->Prop
structure R8(P:Program)(w:World)(K:Frag)(mg:Str->Ψ)(base:Heap)(A:Around)(outer:List Env)(s:Shared)(H:Hp):Prop where
 frames:A.frames=some outer
 mod:Mod K mg base
 bs:∀b o,base.get? b=some o->s.heap.get? b=some o/\H b=none
 bsz:base.objs.size<=s.heap.objs.size
 funs:s.heap.FunFrames base outer
 frf:∀b∈frs outer,H b=none
 hok:HOk P w H s.heap
 bare:AllBare s.gens
def CE(outer:List Env)(P:Program)(w:World)(H:Hp)(s:Shared)(Q:VK)(u:Value)(s':Shared):Prop :=
 ∃v H',s'.os=s.os/\AllBare s'.gens/\Un (frs outer) [] H H' s.heap s'.heap/\HOk P w H' s'.heap/\RelV v u/\Q v H'
def CR(CX:CXT)(outer:List Env)(P:Program)(w:World)(H:Hp)(s:Shared)(Q:VK)(E:XK)(r:Result)(s':Shared):Prop :=
 match r with
 |.ok (.ret u)=>CE outer P w H s Q u s'
 |.ok _=>False
 |.error e=>CX outer H s E e s'
structure dI(P:Program)(w:World)(K:Frag)(mg:Str->Ψ)(base:Heap)(CX:CXT)(k:Nat)(f:Addr)(fd:FuncData)(ps:Θ)(sp:Sp):Prop where
 len:∀vs H Q E,sp vs H Q E->vs.length=ps.length
 run:∀(A:Around)(outer:List Env)(s:Shared)(H:Hp)(args:Args)(us:Δ)(vs:Ε)(Q:VK)(E:XK),dh k A->R8 P w K mg base A outer s H->BindsTo s fd args (ps.zip us)->Vals vs us->sp vs H Q E ->
  codeAny (model P w) A (.call (.ref f) args) (CR CX outer P w H s Q E) s
def dI.imp{P:Program}{w:World}{K:Frag}{mg:Str->Ψ}{base:Heap}{CX:CXT}{k:Nat}{f:Addr}{fd:FuncData}{ps:Θ}{sp sp':Sp}(F:dI P w K mg base CX k f fd ps sp)
 (h:∀vs H Q E,sp' vs H Q E->sp vs H Q E):dI P w K mg base CX k f fd ps sp' :=
 ⟨λvs H Q E q=>F.len vs H Q E (h _ _ _ _ q),λA outer s H args us vs Q E hr he hb hv hs=>F.run A outer s H args us vs Q E hr he hb hv (h _ _ _ _ hs)⟩
def R8.make{P:Program}{w:World}{K:Frag}{mg:Str->Ψ}{base:Heap}{A:Around}{outer:List Env}{s:Shared}{H:Hp}(e:R8 P w K mg base A outer s H)(C:Addr)(us:Δ)(kw:List (Str×Value)) :
  R8 P w K mg base (A.under (.builtin "type.__call__" ⟨.ref C::us,kw⟩)) outer s H:=⟨by first|exact e.frames|(simpa[Around.under,Code.envs,Code.isFrame,pushEnvs]using e.frames),e.mod,e.bs,e.bsz,e.funs,e.frf,e.hok,e.bare⟩
section
variable{X:Cx}{aa:Γ}{σ:St}{H:Hp}{s s':Shared}
def Inv.env0(I:Inv X aa σ H s):R8 X.prog X.w X.K X.mg X.base X.A X.stack s H :=
 ⟨I.ok.frames,I.ok.mod,I.bs,aL I.ok.bsz I.sz,I.stack,I.stkFree,I.hok,I.bare⟩
def Inv.after{Q:VK}{u:Value}(I:Inv X aa σ H s)(h:CE X.stack X.prog X.w H s Q u s'):EP X aa σ Q u s':=by
 obtain⟨v,H',os,bare,un,hok,r,q⟩:=h;obtain⟨hh,g,d,t,os'⟩:=s';obtain rfl:os'=s.os:=os;exact⟨v,H',I.call (h':=hh) (g':=g) (d':=d) (t':=t) (ch:=[]) un hok bare (λb z=>absurd z (by simp)),r,q⟩
end
def ahJ(sp:Sp)(cf:Ε)(E:XK)(t:TA):TE:=λσ H Q=>t σ H λvs H1=>sp (vs++cf) H1 Q E
def aeG(C:Addr)(m:Str)(sp:Sp)(cf:Ε)(E:XK)(ta:TE)(t:TA):TE:=λσ H Q=>ta σ H λx H1=>∃a dx fs,x=.ref a/\H1 a=some (.ins C dx fs)/\fs.lookup m=none /\
 t σ H1 λvs H2=>sp (x::(vs++cf)) H2 Q E
def ak8(C:Addr)(sp:Sp)(cf:Ε)(E:XK)(t:TA):TE:=λσ H Q=>t σ H λvs H1=>∀x dx,H1 x=none->H1 dx=none->dx≠x ->
 sp (.ref x::(vs++cf)) (upd (upd H1 dx (.own x)) x (.ins C dx [])) (λv H2=>v=.non/\Q (.ref x) H2) E
def Binds(K:Frag)(fd:FuncData)(ps:Θ)(ds:Δ):Prop :=
 ∀(s:Shared)(us:Δ),K.In s.heap->(us++ds).length=ps.length->BindsTo s fd ⟨us,[]⟩ (ps.zip (us++ds))
def Binds.all{K:Frag}{fd:FuncData}{ps:Θ}(h:∀us:Δ,us.length=ps.length->bindArgs fd ⟨us,[]⟩=pure (ps.zip us)):Binds K fd ps []:=λs us _ hl=>by
 rw[List.append_nil]at hl ⊢;exact .of_eq (h us hl)
def Passes(CX:CXT)(X:Cx)(E:XK):Prop:=∀(aa:Γ)(σ:St)(H:Hp)(s:Shared)(e:Value)(s':Shared),Inv X aa σ H s->CX X.stack H s E e s'->X.xe e s'
section
variable{X:Cx}{CX:CXT}{k:Nat}{f C:Addr}{fd:FuncData}{ps:Θ}{sp:Sp}{cf:Ε}{ds:Δ}{E:XK}{x m:Str}{p pos ag:Pos}{e o:Expr}{es:List Expr}{ta:TE}{t:TA}
def Pa{aa:Γ}{σ:St}{H:Hp}{s:Shared}{Q:VK}{us:Δ}{vs:Ε}(F:dI X.prog X.w X.K X.mg X.base CX k f fd ps sp)(hr:dh k X.A)(hb:Binds X.K fd ps ds)(hd:Vals cf ds)(hx:Passes CX X E)
 (I:Inv X aa σ H s)(r:Vals vs us)(h:sp (vs++cf) H Q E):wpAny (model X.prog X.w) X.A (call (.ref f) us) (EP X aa σ Q) X.xe s:=by
 have r2:Vals (vs++cf) (us++ds):=r.append hd;have hl:(us++ds).length=ps.length:=by rw[<- r2.length];exact F.len _ _ _ _ h
 refine wpAny_call (codeAny_mono (F.run X.A X.stack s H ⟨us,[]⟩ (us++ds) (vs++cf) Q E hr I.env0 (hb s us I.kIn hl) r2 h) λr s' hq=>?_);cases r with
 |error e=>exact hx aa σ H s e s' I hq
 |ok fl =>
  cases fl with
  |ret u=>exact I.after hq
  |next=>exact False.elim hq
  |brk=>exact False.elim hq
  |cont=>exact False.elim hq
abbrev zg(X:Cx)(a:Pos)(b:List Expr):Prop:=(backTo a (starEach b X.env)).any (·.1)=false
def aeg(F:dI X.prog X.w X.K X.mg X.base CX k f fd ps sp)(hr:dh k X.A)(hg:Gl X x)(hm:X.mg x=some (.ref f))(hk:keepIn X.K (.ref f)=true)(hb:Binds X.K fd ps ds)(hd:Vals cf ds)(hx:Passes CX X E)
 (ha:PA X (e::es) t)(bz:zk x:=by decide)(he:zb X e es:=by rfl)(aE:zg X pos es:=by rfl) :
  PE X (.Call (.Name x p) (e::es) [] pos) (ahJ sp cf E t):=by
 intro aa s σ H Q I h;refine wpAny_Call_Name_kw (ou I hg hm ?_ bz);refine callWith_K (h₀:=X.base) I.ok.mod.kin hk (thn (ha pos aa s σ H _ I h) λus s1 ⟨vs,H1,I1,r,q⟩=>⟨I1.kIn,?_⟩) he aE;exact Pa F hr hb hd hx I1 r q
def acO{pl:Sem Bool}(he:PE X o ta)(c:Cls X.K C)(hm:Meth X.K C m f)(F:dI X.prog X.w X.K X.mg X.base CX k f fd ps sp)(hr:dh k X.A)(hb:Binds X.K fd ps ds)(hd:Vals cf ds)(hx:Passes CX X E)(ha:PA X (e::es) t)
 (bj:zb X e es:=by rfl)(aE:zg X pos es:=by rfl)
 (ht:eval (.Call (.Attribute o m ag) (e::es) [] pos) X.env=(do
   let ov <- eval o X.env
   standAt ag.atName
   let(f,first) <- holding [ov] (getMethod ov m pl)
   callWith pos f first (backTo pos (starEach (e::es) X.env)) (backToKw pos (keywordEach [] X.env))):=by rfl) :
  PE X (.Call (.Attribute o m ag) (e::es) [] pos) (aeG C m sp cf E ta t):=by
 intro aa s σ H Q I h;refine methodCall_KW (pl:=pl) (thn (he aa s σ H _ I h) λu s1 hP=>?_) ht;obtain⟨x,H1,I1,rx,a,dx,fs,ex,ea,l,q⟩:=hP;subst ex;obtain rfl:u=Value.ref a:=rx;refine zU I1 ea c hm l ?_;refine callWith_K (first:=[.ref a]) (h₀:=X.base) I.ok.mod.kin hm.kp (thn (ha pos aa s1 σ H1 _ I1 q) λus s2 ⟨vs,H2,I2,r,q2⟩=>⟨I2.kIn,?_⟩) bj aE;exact Pa (us:=.ref a::us) (vs:=.ref a::vs) F hr hb hd hx I2 (.cons rfl r) q2
def ZR{pl:Sem Bool}(he:PE X o ta)(c:Cls X.K C)(hm:Meth X.K C m f)(F:dI X.prog X.w X.K X.mg X.base CX k f fd ps sp)(hr:dh k X.A)(hb:Binds X.K fd ps ds)(hd:Vals cf ds)(hx:Passes CX X E)
 (ht:eval (.Call (.Attribute o m ag) [] [] pos) X.env=(do
   let ov <- eval o X.env
   standAt ag.atName
   let(f,first) <- holding [ov] (getMethod ov m pl)
   callWith pos f first (backTo pos (starEach [] X.env)) (backToKw pos (keywordEach [] X.env))):=by rfl) :
  PE X (.Call (.Attribute o m ag) [] [] pos) (aeG C m sp cf E ta af4):=by
 intro aa s σ H Q I h;refine methodCall_KW (pl:=pl) (thn (he aa s σ H _ I h) λu s1 hP=>?_) ht;obtain⟨x,H1,I1,rx,a,dx,fs,ex,ea,l,q⟩:=hP;subst ex;obtain rfl:u=Value.ref a:=rx;refine zU I1 ea c hm l ?_;exact PySem.W.callWith_K0 (first:=[.ref a]) I1.kIn hm.kp (Pa (us:=[.ref a]) (vs:=[.ref a]) F hr hb hd hx I1 (.cons rfl .nil) q)
structure Mk(K:Frag)(C f:Addr):Prop where
 makes:makesIn K C=true
 init:findIn K (.ref C) "__init__"=some (some (.ref f))
 fn:isFn K (.ref f)=true
 kp:keepIn K (.ref C)=true
def aaB{aa:Γ}{σ:St}{H:Hp}{s:Shared}{Q:VK}{us:Δ}{vs:Ε}(M:Mk X.K C f)(F:dI X.prog X.w X.K X.mg X.base CX k f fd ps sp)(hr:dh (k+1) X.A)(hb:Binds X.K fd ps ds)(hd:Vals cf ds)
 (hx:Passes CX X E)(I:Inv X aa σ H s)(r:Vals vs us)
 (h:∀x dx,H x=none->H dx=none->dx≠x->sp (.ref x::(vs++cf)) (upd (upd H dx (.own x)) x (.ins C dx [])) (λv H2=>v=.non/\Q (.ref x) H2) E) :
  wpAny (model X.prog X.w) X.A (call (.ref C) us) (EP X aa σ Q) X.xe s:=by
 have hq:=h (s.heap.objs.size+1) s.heap.objs.size (I.hok.fresh (Xs _)) (I.hok.fresh (aG _)) (aQ (X0 _));have I2:=Inv.made (C:=C) I;have r2:Vals (V.ref (s.heap.objs.size+1)::(vs++cf)) (Value.ref (s.heap.objs.size+1)::(us++ds)):=.cons rfl (r.append hd);have hl:(Value.ref (s.heap.objs.size+1)::us++ds).length=ps.length:=by
  have e:=r2.length;rw[F.len _ _ _ _ hq]at e;exact e.symm
 refine wpAny_call (aa2 (f:=f) I.kIn M.makes M.init (beq_iff_eq.mp M.fn) (codeAny_mono (F.run _ X.stack _ _ ⟨Value.ref (s.heap.objs.size+1)::us,[]⟩ (Value.ref (s.heap.objs.size+1)::(us++ds)) _ _ E (hr.make C us [])
  (I2.env0.make C us []) (hb _ (Value.ref (s.heap.objs.size+1)::us) I2.kIn hl) r2 hq) λr s' de=>?_))
 cases r with
 |error e=>exact hx aa σ _ _ e s' I2 de
 |ok fl =>
  cases fl with
  |ret u =>
   obtain⟨v,H',I3,rv,ev,q3⟩:=I2.after de;subst ev;exact⟨rv,⟨V.ref (s.heap.objs.size+1),H',I3,rfl,q3⟩⟩
  |next=>exact False.elim de
  |brk=>exact False.elim de
  |cont=>exact False.elim de
def acp(M:Mk X.K C f)(F:dI X.prog X.w X.K X.mg X.base CX k f fd ps sp)(hr:dh (k+1) X.A)(hg:Gl X x)(hm:X.mg x=some (.ref C))(hb:Binds X.K fd ps ds)(hd:Vals cf ds)(hx:Passes CX X E)
 (ha:PA X (e::es) t)(bz:zk x:=by decide)(he:zb X e es:=by rfl)(aE:zg X pos es:=by rfl) :
  PE X (.Call (.Name x p) (e::es) [] pos) (ak8 C sp cf E t):=by
 intro aa s σ H Q I h;refine wpAny_Call_Name_kw (ou I hg hm ?_ bz);refine callWith_K (h₀:=X.base) I.ok.mod.kin M.kp (thn (ha pos aa s σ H _ I h) λus s1 ⟨vs,H1,I1,r,q⟩=>⟨I1.kIn,?_⟩) he aE;exact aaB M F hr hb hd hx I1 r q
end
structure bK(N P:Θ)(sc:Scope):Prop where
 kind:sc.kind=.function
 co:sc.isCoroutine=false
 gen:sc.isGenerator=false
 nd:N.Nodup
 pre:N.take P.length=P
 par:∀x∈P,sc.names.lookup x=some .local\/sc.names.lookup x=some .cell
 nofree:∀y∈sc.names,y.2≠.free
theorem Lg{kindOf:Str->Option NameKind}{x:Str} : ∀{binds:List (Str×Value)}{m:Str->Ψ},(∀v,(x,v)∉binds)->bindL kindOf binds m x=m x
 |[],_,_=>rfl
 |(n,v)::r,m,h=>by
  unfold bindL;rw[Lg λw hw=>h w (aJ _ hw)];split
  .have:x≠n:=by rintro rfl;exact h v aO
   simp[this]
  .rfl
theorem K6{kindOf:Str->Option NameKind}{x:Str} : ∀{binds:List (Str×Value)}{m:Str->Ψ},(∀v,(x,v)∉binds)->bindC kindOf binds m x=m x
 |[],_,_=>rfl
 |(n,v)::r,m,h=>by
  unfold bindC;rw[K6 λw hw=>h w (aJ _ hw)];split
  .rfl
  .have:x≠n:=by rintro rfl;exact h v aO
   simp[this]
theorem K7{kindOf:Str->Option NameKind}{x:Str}{v:Value} : ∀{P:Θ}{vs:Δ}{i:Nat}{m:Str->Ψ},P.Nodup->P[i]?=some x->vs[i]?=some v->kindOf x=some .local ->
  bindL kindOf (P.zip vs) m x=some v
 |[],_,_,_,_,h,_,_=>by simp at h
 |_::_,[],_,_,_,_,h,_=>by simp at h
 |p::P,w::vs,0,m,nd,h1,h2,hk=>by
  simp at h1 h2;subst h1;subst h2;show bindL kindOf ((p,w)::P.zip vs) m p=_;unfold bindL;rw[Lg λv hv=>(List.nodup_cons.mp nd).1 (UX hv).1,ZY hk];simp
 |p::P,w::vs,i+1,m,nd,h1,h2,hk=>by
  show bindL kindOf ((p,w)::P.zip vs) m x=_;unfold bindL;exact K7 (i:=i) (List.nodup_cons.mp nd).2 (by simpa using h1) (by simpa using h2) hk
theorem Ky{kindOf:Str->Option NameKind}{x:Str}{v:Value} : ∀{P:Θ}{vs:Δ}{i:Nat}{m:Str->Ψ},P.Nodup->P[i]?=some x->vs[i]?=some v->kindOf x≠some .local ->
  bindC kindOf (P.zip vs) m x=some v
 |[],_,_,_,_,h,_,_=>by simp at h
 |_::_,[],_,_,_,_,h,_=>by simp at h
 |p::P,w::vs,0,m,nd,h1,h2,hk=>by
  simp at h1 h2;subst h1;subst h2;show bindC kindOf ((p,w)::P.zip vs) m p=_;unfold bindC;rw[K6 λv hv=>(List.nodup_cons.mp nd).1 (UX hv).1,ZZ hk];simp
 |p::P,w::vs,i+1,m,nd,h1,h2,hk=>by
  show bindC kindOf ((p,w)::P.zip vs) m x=_;unfold bindC;exact Ky (i:=i) (List.nodup_cons.mp nd).2 (by simpa using h1) (by simpa using h2) hk
def start(N:Θ)(vs:Ε):St:=vs.map some++List.replicate (N.length-vs.length) none
def zX(CX:CXT)(P:Program)(w:World)(K:Frag)(mg:Str->Ψ)(base:Heap)(N:Θ)(ah:Str)(scope:Scope)(f:Addr)(cd:Value)(A:Around)(outer:List Env)(s:Shared)(H:Hp)(E:XK):Cx where
 prog:=P
 w:=w
 K:=K
 mg:=mg
 base:=base
 A:=A.deeper (envOfC ah scope s.heap.objs.size f cd)
 N:=N
 s₀:=s
 H₀:=H
 env:=envOfC ah scope s.heap.objs.size f cd
 outer:=outer
 stack:=envOfC ah scope s.heap.objs.size f cd::outer
 ex:=[]
 calm:=true
 fn:=λ_=>true
 pn:=[]
 xe:=λe s'=>wpAny (model P w) (A.deeper (envOfC ah scope s.heap.objs.size f cd)) (leaving (envOfC ah scope s.heap.objs.size f cd) e) (λ_ mm=>CX outer H s E e mm) (λe' mm=>CX outer H s E e' mm) s'
def Rx{sc:Scope}{n:Nat}{x:Str}(h:sc.names.lookup x=some .cell):∃c,(cellsFrom n sc.names []).lookup x=some c:=by
 have q:=PySem.W.cellsFrom_some sc.names n [] (.inl h);exact Option.isSome_iff_exists.mp q
def Yw{CX:CXT}{P:Program}{w:World}{K:Frag}{mg:Str->Ψ}{base:Heap}{N ps:Θ}{ah:Str}{scope:Scope}{f:Addr}{cd:Value}{A:Around}{outer:List Env}{s s1:Shared}{H:Hp}{E:XK}{us:Δ}{vs:Ε}
 (S:bK N ps scope)(hd:A.handled=none)(e0:R8 P w K mg base A outer s H)(hl:vs.length=ps.length)(r:Vals vs us)
 (x:InCallC s s.heap.objs.size (bindL (envOfC ah scope s.heap.objs.size f cd).kindOf (ps.zip us) λ_=>none) (cellsFrom (s.heap.objs.size+1) scope.names []) (bindC (envOfC ah scope s.heap.objs.size f cd).kindOf (ps.zip us) λ_=>none) s1) :
  Inv (zX CX P w K mg base N ah scope f cd A outer s H E) [] (start N vs) H s1:=by
 have aE:ps.length<=N.length:=by have:=ZH List.length S.pre;rw[aY]at this;lia
 obtain⟨h1,tk,rfl,hk⟩:=x.done;have ka:∀b:Addr,b∉(zX CX P w K mg base N ah scope f cd A outer s H E).ex:=λb z=>absurd (show b∈([] : Φ)from z) (by simp);refine⟨⟨e0.mod,S.kind,rfl,rfl,aG _,λy z c h1 h2=>?_,λy hy=>?_,λy c _ h=>?_,λ_=>hd,Around.frames_deeper e0.frames,.inr ⟨rfl,rfl⟩,λb z=>absurd z (ka b),e0.bs,e0.bsz,λb _ _=>ka b,λb z=>absurd z (ka b),e0.funs,e0.frf⟩,
  rfl,e0.bare,Un.kept hk,⟨_,x.toInCall.ns,λi y v h1 h2 h3=>?_⟩,λy c h=>⟨_,x.cell y c h⟩,e0.hok.fresh (aG _),λy c h=>?_,λp hp=>absurd (show p∈([] : Γ)from hp) (by simp),e0.hok.kept hk,?_⟩
 .exact name_of_addr x.apart (PySem.mem_of_lookup h1) (PySem.mem_of_lookup h2)
 .have hy:scope.names.lookup y=some .cell\/scope.names.lookup y=some .free:=hy;rcases hy with hy|hy
  .exact Rx hy
  .exact absurd rfl (S.nofree _ (PySem.mem_of_lookup hy))
 .exact Y2 (x.above y c (PySem.mem_of_lookup h))
 .have hi:i<vs.length:=by
   unfold start at h2;by_cases hi:i<vs.length
   .exact hi
   .rw[aD (by simpa using hi)]at h2;rw[XG]at h2;split at h2<;>cases h2
  have ha:vs[i]?=some v:=by
   unfold start at h2;rw[aF (by simpa using hi),aq]at h2;cases e:vs[i]? with
   |none=>rw[e]at h2;cases h2
   |some a=>rw[e]at h2;cases h2;rfl
  obtain⟨u,hu,rv⟩:=r.get ha;have hp:ps[i]?=some y:=by
   rw[<- S.pre,List.getElem?_take_of_lt (aR hi (WG hl))];exact h1
  have ndP:ps.Nodup:=by rw[<- S.pre];exact S.nd.sublist (List.take_sublist _ _)
  refine⟨u,rv,?_⟩;rcases S.par y (aC hp)with k|k
  .exact .inl ⟨k,K7 ndP hp hu k⟩
  .obtain⟨c,e⟩:=Rx (n:=s.heap.objs.size+1) k;refine .inr ⟨.inl k,c,e,?_⟩;have q:=x.cell y c e;rw[Ky ndP hp hu (by show scope.names.lookup y≠_;rw[k];decide)]at q;exact q
 .exact e0.hok.fresh (Y2 (x.above y c (PySem.mem_of_lookup h)))
 .unfold start;show _=N.length;rw[aA,ak,aN];lia
def aeB{CX:CXT}{P:Program}{w:World}{K:Frag}{mg:Str->Ψ}{base:Heap}{k:Nat}{f:Addr}{name ah:Str}{fh:Arguments}{bP:List Stmt}{scope:Scope}{dV kV bS pm ai ct oc:Value}{an od:Ω}
 {dt:Array (Ψ)}{N ps:Θ}{sp:Sp}(lk:K.lookup f=some ⟨oc,od,.func (PySem.W.fnOf name ah fh bP scope dV kV bS pm an ai ct),dt⟩)(a8:codeIn K ai ah=true)(S:bK N ps scope)
 (len:∀vs H Q E,sp vs H Q E->vs.length=ps.length)
 (be:∀(A:Around)(outer:List Env)(s:Shared)(H:Hp)(vs:Ε)(Q:VK)(E:XK),dh k (A.deeper (envOfC ah scope s.heap.objs.size f ai))->sp vs H Q E ->
   ∃t,PSs (zX CX P w K mg base N ah scope f ai A outer s H E) bP t/\t { nx:=λ_ H'=>Q .non H',rt:=Q } (start N vs) H) :
  dI P w K mg base CX (k+1) f (PySem.W.fnOf name ah fh bP scope dV kV bS pm an ai ct) ps sp:=by
 refine⟨len,λA outer s H args us vs Q E hr e0 hb r eW=>?_⟩;have hl:=len _ _ _ _ eW;have KX:K.In s.heap:=e0.mod.kin.keeps λb o e=>(e0.bs b o e).1;have lim:s.heap.NoLimit:=e0.mod.nolimit.keeps λb o e=>(e0.bs b o e).1;have ci:∀y∈ps.zip us,scope.names.lookup y.1=some .local\/(scope.names.lookup y.1=some .cell/\((cellsFrom (s.heap.objs.size+1) scope.names []).lookup y.1).isSome=true):=λ⟨n,v⟩ hy=>by
  rcases S.par n (UX hy).1 with q|q
  .exact .inl q
  .exact .inr ⟨q,PySem.W.cellsFrom_some _ _ _ (.inl q)⟩
 refine codeAny_call_function hr.depth (KX _ _ lk) rfl S.co S.gen rfl (PySem.W.codeRec_of KX a8) (hb _ _ _ _ ?_);refine wpAny_newFunctionEnv_cells S.kind ci λenv he s1 x=>?_;subst he;refine⟨lim.keeps x.toInCall.keep,codeAny_func ?_⟩;obtain⟨t,ht,hq⟩:=be A outer s H vs Q E (hr.deeper _) eW;have I:Inv (zX CX P w K mg base N ah scope f ai A outer s H E) [] (start N vs) H s1:=Yw S hr.hd e0 hl r x;refine wpAny_mono (ht [] s1 (start N vs) H _ I hq) (λfl s' hs=>?_) λe s' hs=>hs;have aS:∀{σ':St}{H':Hp}{v:V}{u:Value},Inv (zX CX P w K mg base N ah scope f ai A outer s H E) [] σ' H' s'->RelV v u->Q v H'->CE outer P w H s Q u s' :=
  λ{σ' H' v u}J rv q=>⟨v,H',J.os,J.bare,J.base,J.hok,rv,q⟩
 cases fl with
 |ret u =>
  obtain⟨v,σ',H',J,rv,q⟩:=hs;exact aS J rv q
 |next =>
  obtain⟨σ',H',J,q⟩:=hs;exact aS (v:=V.non) (u:=Value.none) J rfl q
 |brk =>
  obtain⟨_,_,_,q⟩:=hs;exact False.elim q
 |cont =>
  obtain⟨_,_,_,q⟩:=hs;exact False.elim q
section
variable{X:Cx}{x:Str}{p pos:Pos}{e:Expr}{es:List Expr}{t:TA}{id T:String}{r:Ε->Hp->VK->Prop}
def tCB(r:Ε->Hp->VK->Prop)(t:TA):TE:=λσ H Q=>t σ H λvs H1=>r vs H1 Q
def QK(hc:jq X (.builtin id) r)(hg:Gl X x)(hm:X.mg x=none)(hv:bootBuiltins x=some (.builtin id))(ha:PA X (e::es) t)(hn:x≠"__name__":=by decide)(bz:zk x:=by decide)
 (he:zb X e es:=by rfl)(aE:zg X pos es:=by rfl):PE X (.Call (.Name x p) (e::es) [] pos) (tCB r t):=by
 intro aa s σ H Q I h;refine wpAny_Call_Name_kw (xg I hg hm hv ?_ hn bz);exact PyProof.Rows.callWith_builtin1 (thn (ha pos aa s σ H _ I h) λus s1 hP=>by obtain⟨vs,H1,I1,r1,q1⟩:=hP;exact hc aa s1 σ H1 vs us Q I1 r1 q1) he aE
def YF(hc:jq X (.type T) r)(hg:Gl X x)(hm:X.mg x=none)(hv:bootBuiltins x=some (.type T))(ha:PA X (e::es) t)(hn:x≠"__name__":=by decide)(bz:zk x:=by decide)
 (he:zb X e es:=by rfl)(aE:zg X pos es:=by rfl):PE X (.Call (.Name x p) (e::es) [] pos) (tCB r t):=by
 intro aa s σ H Q I h;refine wpAny_Call_Name_kw (xg I hg hm hv ?_ hn bz);exact PyProof.Rows.callWith_type1 (thn (ha pos aa s σ H _ I h) λus s1 hP=>by obtain⟨vs,H1,I1,r1,q1⟩:=hP;exact hc aa s1 σ H1 vs us Q I1 r1 q1) he aE
end
end L2
namespace HT
open PySem PyProof.Rows
section
variable{prog:Program}{w:World}{A:Around}{E:Β}{s:Shared}
def sIx(n d:Nat):Option Int->Nat
 |none=>d
 |some v=>if v<0 then(v+(n:Int)).toNat else min v.toNat n
theorem Qs(n d:Nat):sIx n d none=d:=rfl
def xZ(n d k:Nat):sIx n d (some (k:Int))=min k n:=by
 show(if(k:Int)<0 then((k:Int)+(n:Int)).toNat else min (k:Int).toNat n)=min k n;rw[ZZ (Int.not_lt_of_ge (X9 _)),Int.toNat_natCast]
def ago(n d:Nat)(hd:d<=n)(o:Option Int):sIx n d o<=n:=by
 cases o with
 |none=>exact hd
 |some v =>
  show(if v<0 then(v+(n:Int)).toNat else min v.toNat n)<=n;by_cases hv:v<0
  .rw[ZY hv];lia
  .rw[ZZ hv];exact Nat.min_le_right _ _
end
end HT
namespace L2
open PySem PySem.Spec PyProof.Rows
abbrev TO:=St->Hp->(Option Int->Hp->Prop)->Prop
def PO(X:Cx)(e:Option Expr)(t:TO):Prop :=
 ∀(aa:Γ)(s:Shared)(σ:St)(H:Hp)(Q:Option Int->Hp->Prop),Inv X aa σ H s->t σ H Q ->
  wpAny (model X.prog X.w) X.A (evalPart e X.env) (λu s'=>∃o H',Inv X aa σ H' s'/\IsPart u o/\Q o H') X.xe s
def ab9:TO:=λ_ H Q=>Q none H
def ahQ(t:TE):TO:=λσ H Q=>t σ H λx H1=>∃i,x=.int i/\Q (some i) H1
def intsAre_of{ns:List Int} : ∀{us:Δ},Vals (ns.map V.int) us->IntsAre us ns:=by
 induction ns with
 |nil=>intro us r;rw[List.map_nil]at r;cases r;exact .nil
 |cons n ns ih =>
  intro us r;rw[List.map_cons]at r;cases r with
  |cons r1 r2 =>
   obtain⟨t,e⟩:=r1;subst e;exact .cons n t (ih r2)
section
variable{X:Cx}{e:Expr}{te:TE}{lo hi:Option Expr}{tl th:TO}{pos p2:Pos}
def adG:PO X none ab9:=by
 intro aa s σ H Q I h;rw[evalPart_none];exact ZT ⟨none,H,I,.none,h⟩
def ab5(h:PE X e te):PO X (some e) (ahQ te):=by
 intro aa s σ H Q I hw;rw[evalPart_some];refine thn (h aa s σ H _ I hw) λu s1 hP=>?_;obtain⟨x,H1,I1,r1,q1⟩:=hP;obtain⟨i,rfl,q⟩:=q1;obtain⟨t,rfl⟩:=r1;exact⟨some i,H1,I1,.int i t,q⟩
def SlR(X:Cx)(r:V->Option Int->Option Int->Hp->VK->Prop):Prop :=
 ∀(aa:Γ)(s:Shared)(σ:St)(H:Hp)(x:V)(v vl vu:Value)(lo hi:Option Int)(sl:Addr)(Q:VK),Inv X aa σ H s->RelV x v->s.heap.IsSliceOf sl vl vu .none->IsPart vl lo->IsPart vu hi->r x lo hi H Q ->
  ∃T id,typeLookup (.type T) "__getitem__"=pure (some (.builtin id))/\s.TypeIs v T/\wpAny (model X.prog X.w) X.A (getItem v (.ref sl)) (EP X aa σ Q) X.xe s
def SlR.or{r r':V->Option Int->Option Int->Hp->VK->Prop}(h:SlR X r)(h':SlR X r'):SlR X (λx lo hi H Q=>r x lo hi H Q\/r' x lo hi H Q):=by
 intro aa s σ H x v vl vu lo hi sl Q I rx hs pl pu q;rcases q with q|q
 .exact h aa s σ H x v vl vu lo hi sl Q I rx hs pl pu q
 .exact h' aa s σ H x v vl vu lo hi sl Q I rx hs pl pu q
def tSl(r:V->Option Int->Option Int->Hp->VK->Prop)(te:TE)(tl th:TO):TE:=λσ H Q=>te σ H λx H1=>tl σ H1 λl H2=>th σ H2 λu H3=>r x l u H3 Q
def YJ{r:V->Option Int->Option Int->Hp->VK->Prop}(hr:SlR X r)(he:PE X e te)(hl:PO X lo tl)(hu:PO X hi th):PE X (.Subscript e (.Slice lo hi none p2) pos) (tSl r te tl th):=by
 intro aa s σ H Q I h;refine Subscript_ (thn (he aa s σ H _ I h) λv s1 hP=>?_);obtain⟨x,H1,I1,r1,q1⟩:=hP;refine wpAny_Slice (thn (hl aa s1 σ H1 _ I1 q1) λvl s2 ⟨l,H2,I2,pl,q2⟩=>thn (hu aa s2 σ H2 _ I2 q2) λvu s3 hP=>?_);obtain⟨u,H3,I3,pu,q3⟩:=hP;rw[evalPart_none];refine ZT ?_;have I4:Inv X aa σ H3 { s3 with heap:=s3.heap.push { cls:=.type "slice",data:=.fields #[vl,vu,.none] } }:=I3.kept (t':=s3.toks) λb ob q=>aH _ q;obtain⟨T,id,hT,ht,hg⟩:=hr aa { s3 with heap:=s3.heap.push { cls:=.type "slice",data:=.fields #[vl,vu,.none] } } σ H3 x v vl vu l u s3.heap.objs.size Q I4 r1 (Heap.IsSliceOf.new ..) pl pu q3;show wpAny (model X.prog X.w) X.A (subscriptTail e (.Slice lo hi none p2) v (.ref s3.heap.objs.size)) (EP X aa σ Q) X.xe { s3 with heap:=s3.heap.push { cls:=.type "slice",data:=.fields #[vl,vu,.none] } };exact tail_any (ops:=[.ref s3.heap.objs.size,v]) ht hT hg (by with_unfolding_all rfl)
def Xo(xs:Ε)(lo hi:Option Int):Ε:=(xs.drop (HT.sIx xs.length 0 lo)).take (HT.sIx xs.length xs.length hi-HT.sIx xs.length 0 lo)
def Ry(xs:Ε)(lo hi:Option Int):(Xo xs lo hi).length<=xs.length:=by
 unfold Xo;rw[aY,US];lia
end
def ixN(n:Nat)(i:Int):Option Nat:=if 0<=i then(if i<n then some i.toNat else none)else if -(n:Int)<=i then some (i+n).toNat else none
def atI{α:Type}(xs:List α)(i:Int):Option α:=(ixN xs.length i).bind λj=>xs[j]?
def Wf{n:Nat}{i:Int}{j:Nat}(h:ixN n i=some j):seqIndex? i n=some j/\j<n/\-(n:Int)<=i/\i<n:=by
 unfold ixN at h;by_cases h0:0<=i
 .rw[ZY h0]at h;by_cases h1:i<n
  .rw[ZY h1]at h;have e:i.toNat=j:=Option.some.inj h;exact⟨by rw[seqIndex_of h0 h1,e],by lia,by lia,h1⟩
  .rw[ZZ h1]at h;cases h
 .rw[ZZ h0]at h;by_cases h1 : -(n:Int)<=i
  .rw[ZY h1]at h;have e:(i+n).toNat=j:=Option.some.inj h;exact⟨by rw[seqIndex_neg (TK h0) h1,e],by lia,h1,by lia⟩
  .rw[ZZ h1]at h;cases h
def PX{α:Type}{xs:List α}{i:Int}{v:α}(h:atI xs i=some v):∃j,seqIndex? i xs.length=some j/\xs[j]?=some v/\j<xs.length/\-(xs.length:Int)<=i/\i<xs.length:=by
 unfold atI at h;cases e:ixN xs.length i with
 |none=>rw[e]at h;cases h
 |some j =>
  rw[e]at h;obtain⟨h1,h2,h3,h4⟩:=Wf e;exact⟨j,h1,h,h2,h3,h4⟩
def uh(b:Expr):Prop:=∀o i,subscripted b false o i=operate [o,i] (getItem o i)
def IxR(X:Cx)(r:R2):Prop :=
 ∀(ar bu:Expr)(aa:Γ)(s:Shared)(σ:St)(H:Hp)(x y:V)(v u:Value)(Q:VK),Inv X aa σ H s->RelV x v->RelV y u->r x y H Q ->
  subscripted bu false v u=operate [v,u] (getItem v u)->wpAny (model X.prog X.w) X.A (subscriptTail ar bu v u) (EP X aa σ Q) X.xe s
def MtR(X:Cx)(id:String)(r:V->Ε->Hp->VK->Prop):Prop :=
 ∀(aa:Γ)(s:Shared)(σ:St)(H:Hp)(x:V)(xs:Ε)(v:Value)(us:Δ)(Q:VK),Inv X aa σ H s->RelV x v->Vals xs us->r x xs H Q ->
  wpAny (model X.prog X.w) X.A (call (.builtin id) (v::us)) (EP X aa σ Q) X.xe s
section
variable{X:Cx}{a b:Expr}{ta tb:TE}{pos:Pos}
def IxR.or{r r':R2}(h:IxR X r)(h':IxR X r'):IxR X (λx y H Q=>r x y H Q\/r' x y H Q):=by
 intro ar bu aa s σ H x y v u Q I rx ry q hs;rcases q with q|q
 .exact h ar bu aa s σ H x y v u Q I rx ry q hs
 .exact h' ar bu aa s σ H x y v u Q I rx ry q hs
def KC{r:R2}(hr:IxR X r)(ha:PE X a ta)(hb:PE X b tb)(hs:uh b):PE X (.Subscript a b pos) (tOp r ta tb):=by
 intro aa s σ H Q I h;exact Subscript_ (afY ha hb I h λv u s2 x y H2 I2 rx ry q=>hr a b aa s2 σ H2 x y v u Q I2 rx ry q (hs _ _))
def ant(K:Frag):R2:=λx y H Q=>∃p xs i v,x=.ref p/\y=.int i/\SqL K H p xs/\atI xs i=some v/\Q v H
def al0(K:Frag):R2:=λx y H Q=>∃p xs i v,x=.ref p/\y=.int i/\SqT K H p xs/\atI xs i=some v/\Q v H
def alP:R2:=λx y H Q=>∃z i c,x=.str z/\y=.int i/\z.length<=sizeLine/\atI z.cps.toList i=some c/\Q (.str ⟨#[c]⟩) H
def yh:IxR X (ant X.K):=by
 intro ar bu aa s σ H x y v u Q I rx ry h hs;obtain⟨p,xs,i,z,rfl,rfl,hq,he,q⟩:=h;cases rx;obtain⟨t,rfl⟩:=ry;obtain⟨its,r,pl,hz⟩:=I.list hq;obtain⟨j,h1,h2,h3,h4,h5⟩:=PX he;obtain⟨w,ew,fg⟩:=r.get h2;have hl:=r.length;have hn:=uW;have aS:EP X aa σ Q w s:=⟨z,H,I,fg,q⟩;by_cases h0:0<=i
 .have hj:i.toNat=j:=by
   rw[seqIndex_of h0 h5]at h1;exact Option.some.inj h1
  exact item_listR pl.isList h0 (by lia) (by rw[hj];simpa using ew) aS hs
 .have hj:(i+(its.toArray.size:Int)).toNat=j:=by
   rw[seqIndex_neg (TK h0) h4]at h1;rw[aX,<- hl];exact Option.some.inj h1
  exact subscriptTail_builtinR (x:=w) pl.isList.typeIs slot_list_getitem.lookup
   (wpAny_getItem_list_neg (Q:=λr s'=>r=w/\EP X aa σ Q r s') pl.isList (TK h0) (by rw[aX]<;>lia) (by lia) (by rw[hj];simpa using ew) ⟨rfl,aS⟩) hs
def agr:IxR X (al0 X.K):=by
 intro ar bu aa s σ H x y v u Q I rx ry h hs;obtain⟨p,xs,i,z,rfl,rfl,hq,he,q⟩:=h;cases rx;obtain⟨t,rfl⟩:=ry;obtain⟨its,r,pl,hz⟩:=I.tuple hq;obtain⟨j,h1,h2,h3,h4,h5⟩:=PX he;obtain⟨w,ew,fg⟩:=r.get h2;have hl:=r.length;have hn:=uW;have aS:EP X aa σ Q w s:=⟨z,H,I,fg,q⟩;exact subscriptTail_builtinR (x:=w) pl.typeIs slot_tuple_getitem.lookup
  (getItem_tuple (j:=j) (Q:=λr s'=>r=w/\EP X aa σ Q r s') pl (by lia) (by lia) (by rw[aX,<- hl];exact h1) (by simpa using ew) ⟨rfl,aS⟩) hs
def afV:IxR X alP:=by
 intro ar bu aa s σ H x y v u Q I rx ry h hs;obtain⟨z,i,c,rfl,rfl,hz,he,q⟩:=h;obtain⟨t,rfl⟩:=rx;obtain⟨t',rfl⟩:=ry;obtain⟨j,h1,h2,h3,h4,h5⟩:=PX he;have hl:z.cps.toList.length=z.length:=by simp[Str.length]
 rw[hl]at h1 h4 h5;have hn:=uW;exact tail_any (typeIs_str s z t) slot_str_getitem.lookup (getItem_str (c:=c) (by
  have e1:decide (i < -(2^63:Int))=false:=Zp (by lia);have e2:decide (i>=2^63)=false:=Zp (by lia);rw[e1,e2,Bool.or_false]) (by rw[h1];simpa using h2) ⟨.str ⟨#[c]⟩,H,I.tok _,⟨_,rfl⟩,q⟩) hs
def Ug(its:Δ)(n j:Nat)(u:Value):Obj.mapSeq (·.setIfInBounds j u) { cls:=.type "list",data:=.seq its.toArray n }={ cls:=.type "list",data:=.seq (its.set j u).toArray n }:=by
 simp[Obj.mapSeq]
def Inv.lst{aa:Γ}{σ:St}{H:Hp}{s:Shared}{p:Addr}{xs:Ε}(I:Inv X aa σ H s)(h:H p=some (.lst xs)) :
  ∃(its:Δ)(n:Nat),Vals xs its/\s.heap.get? p=some { cls:=.type "list",data:=.seq its.toArray n }/\xs.length<=sizeLine:=by
 obtain⟨z,its,n,r,e⟩:=I.hok p _ h;exact⟨its,n,r,e,z⟩
def Inv.lstUpd{aa:Γ}{σ:St}{H:Hp}{s:Shared}{p:Addr}{xs ys:Ε}{its its':Δ}{n n':Nat}{f:Obj->Obj}(I:Inv X aa σ H s)(h:H p=some (.lst xs))
 (ho:s.heap.get? p=some { cls:=.type "list",data:=.seq its.toArray n })(hf:f { cls:=.type "list",data:=.seq its.toArray n }={ cls:=.type "list",data:=.seq its'.toArray n' })(r:Vals ys its')(hz:ys.length<=sizeLine)(t:Nat) :
  Inv X aa σ (upd H p (.lst ys)) { s with heap:=s.heap.update p f,toks:=t }:=by
 have e:(s.heap.update p f).get? p=some { cls:=.type "list",data:=.seq its'.toArray n' }:=by
  rw[Heap.get?_update_self f ho (by rw[hf]<;>rfl),hf]
 refine I.write (x:=p) (e:=p) (by rw[h];trivial) (.inl rfl) (λb u hb q=>(Heap.get?_update_other _ _ (Ne.symm hb)).trans q) ⟨_,e⟩ ?_;exact⟨hz,its',n',r,e⟩
def aiy:V->V->V->Hp->(Hp->Prop)->Prop:=λo i v H Q=>∃p xs k j,o=.ref p/\i=.int k/\H p=some (.lst xs)/\ixN xs.length k=some j/\Q (upd H p (.lst (xs.set j v)))
def set_list:alC X aiy:=by
 intro aa s σ H o i v ov iv u Q I ro ri rv h;obtain⟨p,xs,k,j,rfl,rfl,hp,hj,q⟩:=h;cases ro;obtain⟨t,rfl⟩:=ri;obtain⟨its,n,r,ho,hz⟩:=I.lst hp;obtain⟨h1,h2,h3,h4⟩:=Wf hj;have hl:=r.length;have hn:=uW;have I':Inv X aa σ (upd H p (.lst (xs.set j v))) { s with heap:=s.heap.update p (Obj.mapSeq (·.setIfInBounds j u)) } :=
  I.lstUpd hp ho (Ug its n j u) (r.set rv j) (by rw[WH];exact hz) s.toks
 by_cases h0:0<=k
 .have hk:k.toNat=j:=by
   rw[seqIndex_of h0 h4]at h1;exact Option.some.inj h1
  exact PySem.W.ki_setAt ho h0 (by lia) (by rw[aX,<- hl];exact h4) (by rw[hk];exact⟨_,I',q⟩)
 .have hk:(k+(its.toArray.size:Int)).toNat=j:=by
   rw[seqIndex_neg (TK h0) h3]at h1;rw[aX,<- hl];exact Option.some.inj h1
  exact PySem.W.ki_setBack ho (TK h0) (by rw[aX,<- hl];exact h3) (by lia) (by rw[hk];exact⟨_,I',q⟩)
def O_(lo hi:Option Int)(n:Nat):(sliceBounds lo hi none n).1=((HT.sIx n 0 lo:Nat):Int)/\(sliceBounds lo hi none n).2.1=((HT.sIx n n hi:Nat):Int)/\(sliceBounds lo hi none n).2.2=1:=by
 refine⟨?_,?_,rfl⟩
 .cases lo with
  |none=>simp[sliceBounds,HT.sIx]
  |some i =>
   simp only[sliceBounds,HT.sIx,Option.getD_none,show(1:Int)>0 by decide,if_true];by_cases h:i<0
   .simp only[h,if_true]<;>lia
   .simp only[h,if_false]<;>lia
 .cases hi with
  |none=>simp[sliceBounds,HT.sIx]
  |some i =>
   simp only[sliceBounds,HT.sIx,Option.getD_none,show(1:Int)>0 by decide,if_true];by_cases h:i<0
   .simp only[h,if_true]<;>lia
   .simp only[h,if_false]<;>lia
def JT(its:Δ)(lo hi:Option Int):slicePick its.toArray lo hi none=((its.drop (HT.sIx its.length 0 lo)).take (HT.sIx its.length its.length hi-HT.sIx its.length 0 lo)).toArray:=by
 obtain⟨h1,h2,h3⟩:=O_ lo hi its.toArray.size;unfold slicePick;rw[h1,h2,h3];simp only[sliceRange_one,pick_run,aX]<;>rfl
def amZ(K:Frag):V->Option Int->Option Int->Hp->VK->Prop:=λx lo hi H Q=>∃a xs,x=.ref a/\SqL K H a xs/\∀p,H p=none->Q (.ref p) (upd H p (.lst (Xo xs lo hi)))
def acD:SlR X (amZ X.K):=by
 intro aa s σ H x v vl vu lo hi sl Q I rx hs pl pu h;obtain⟨a,xs,rfl,hx,q⟩:=h;cases rx;obtain⟨its,r,ht,hz⟩:=I.list hx;have a9:=r.length;refine⟨"list",_,slot_list_getitem.lookup,ht.isList.typeIs,?_⟩;refine wpAny_getItem_list_slice ht.isList hs pl pu .none (by simp) ?_ (by rw[aX]<;>lia);rw[JT,<- a9];refine⟨.ref s.heap.objs.size,_,I.laid (t':=s.toks) (o:=.lst (Xo xs lo hi)) (λb ob q=>aH _ q) (aG _) ?_,rfl,q _ (I.hok.fresh (aG _))⟩;exact⟨aL (Ry xs lo hi) hz,_,0,(r.drop (HT.sIx xs.length 0 lo)).take (HT.sIx xs.length xs.length hi-HT.sIx xs.length 0 lo),aW _ rfl⟩
def eqV:V->V->Bool
 |.non,.non=>true
 |.bl a,.bl b=>a==b
 |.bl a,.int b=>(if a then 1 else 0)==b
 |.int a,.bl b=>a==(if b then 1 else 0)
 |.int a,.int b=>a==b
 |.str a,.str b=>a==b
 |_,_=>false
def Pz:jq X (.builtin "len") (λxs H Q=>∃p ys,xs=[.ref p]/\(SqL X.K H p ys\/SqT X.K H p ys)/\Q (.int ys.length) H):=by
 intro aa s σ H xs us Q I r h;obtain⟨p,ys,rfl,hq,q⟩:=h;obtain⟨u,rfl,rx⟩:=vals1 r;cases rx;have hn:=uW;rcases hq with hq|hq
 .obtain⟨its,r',pl,hz⟩:=I.list hq;have a9:=r'.length;exact Calls.call_len_list pl.isList (by simp only[aX]<;>lia) ⟨.int ys.length,H,I.tok _,⟨s.toks+1,by rw[aX,a9]⟩,q⟩
 .obtain⟨its,r',pl,hz⟩:=I.tuple hq;have a9:=r'.length;exact len_tuple pl (by simp only[aX]<;>lia) ⟨.int ys.length,H,I.tok _,⟨s.toks+1,by rw[aX,a9]⟩,q⟩
def Mr:jq X (.builtin "len") (λxs H Q=>∃z,xs=[.str z]/\z.length<=sizeLine/\Q (.int z.length) H):=by
 intro aa s σ H xs us Q I r h;obtain⟨z,rfl,hz,q⟩:=h;obtain⟨u,rfl,t,rfl⟩:=vals1 r;have hn:=uW;exact len_str (by lia) ⟨.int z.length,H,I.tok _,⟨_,rfl⟩,q⟩
def Oq:jq X (.type "list") (λxs H Q=>∃p ys,xs=[.ref p]/\(SqL X.K H p ys\/SqT X.K H p ys)/\∀l,H l=none->Q (.ref l) (upd H l (.lst ys))):=by
 intro aa s σ H xs us Q I r h;obtain⟨p,ys,rfl,hq,q⟩:=h;obtain⟨u,rfl,rx⟩:=vals1 r;cases rx;have aS:∀(its:Δ),Vals ys its->ys.length<=sizeLine->∀(h':Heap)(c':Nat),(∀b o',s.heap.get? b=some o'->h'.get? b=some o') ->
   h'.get? s.heap.objs.size=some { cls:=.type "list",dict:=none,data:=.seq its.toArray c',slots:=#[] }->EP X aa σ Q (.ref s.heap.objs.size) { s with heap:=h' }:=λits r' hz h' c' kp e =>
  ⟨.ref s.heap.objs.size,_,I.laid (t':=s.toks) kp (aG _) (show eX X.prog X.w _ h' _ (.lst ys)from⟨hz,its,c',r',e⟩),rfl,q _ (I.hok.fresh (aG _))⟩
 rcases hq with hq|hq
 .obtain⟨its,r',pl,hz⟩:=I.list hq;have a9:=r'.length;obtain⟨o,ho,hc,n,hd⟩:=pl.isList;exact call_list_seq p (.inl rfl) ho hc hd (λh' c' kp e=>aS its r' hz h' c' kp e) (by simp only[aX]<;>lia)
 .obtain⟨its,r',pl,hz⟩:=I.tuple hq;have a9:=r'.length;obtain⟨o,ho,hc,n,hd⟩:=pl;exact call_list_seq p (.inr rfl) ho hc hd (λh' c' kp e=>aS its r' hz h' c' kp e) (by simp only[aX]<;>lia)
def Kh:jq X (.type "tuple") (λxs H Q=>∃p ys,xs=[.ref p]/\((SqL X.K H p ys/\∀l,H l=none->Q (.ref l) (upd H l (.tup ys)))\/(SqT X.K H p ys/\Q (.ref p) H))):=by
 intro aa s σ H xs us Q I r h;obtain⟨p,ys,rfl,h⟩:=h;obtain⟨u,rfl,rx⟩:=vals1 r;cases rx;rcases h with⟨hq,q⟩|⟨hq,q⟩
 .obtain⟨its,r',pl,hz⟩:=I.list hq;have a9:=r'.length;refine call_tuple_list pl.isList (λh' kp=>?_) (by simp only[aX]<;>lia);have I1:Inv X aa σ H { s with heap:=h' }:=I.kept (t':=s.toks) kp;have I2:Inv X aa σ (upd H h'.objs.size (.tup ys)) { s with heap:=h'.push { cls:=.type "tuple",data:=.seq its.toArray } } :=
   I1.laid (t':=s.toks) (λb o e=>aH _ e) (aG _) (show eX X.prog X.w _ _ _ (.tup ys)from⟨hz,its,r',IsTup.new _ _⟩)
  exact⟨.ref h'.objs.size,_,I2,rfl,q _ (I1.hok.fresh (aG _))⟩
 .obtain⟨its,r',pl,hz⟩:=I.tuple hq;exact call_tuple_same pl ⟨.ref p,H,I,rfl,q⟩
def tyV(K:Frag)(T:String)(x:V)(H:Hp):Prop:=match x with
 |.str _=>T="str"
 |.int _=>T="int"
 |.ref p=>(T="list"/\∃xs,SqL K H p xs)\/(T="tuple"/\∃o,K.lookup p=some o/\o.cls=.type "tuple"/\o.dict=none) \/
   (T="dict"/\(∃kvs,H p=some (.dK kvs)))\/(T="set"/\∃S n,H p=some (.set S n))
 |_=>False
def Zt{aa:Γ}{σ:St}{H:Hp}{s:Shared}{T:String}{x:V}{v:Value}(I:Inv X aa σ H s)(r:RelV x v)(ty:tyV X.K T x H) :
  s.TypeIs v T/\∀a,v=.ref a->∃ob,s.heap.get? a=some ob/\ob.dict=none:=by
 cases x with
 |str z =>
  obtain⟨t,rfl⟩:=r;cases(show T="str" from ty);exact⟨typeIs_str s z t,λ_ e=>nomatch e⟩
 |int i =>
  obtain⟨t,rfl⟩:=r;cases(show T="int" from ty);exact⟨typeIs_int s i t,λ_ e=>nomatch e⟩
 |ref p =>
  cases r;rcases ty with⟨rfl,xs,hq⟩|⟨rfl,o,hk,hc,hd⟩|⟨rfl,hk⟩|⟨rfl,S,n,hk⟩
  .obtain⟨its,_,pl,_⟩:=I.list hq;refine⟨pl.isList.typeIs,λa e=>?_⟩;cases e;obtain⟨o,n,e,c,hd,_⟩:=pl;exact⟨o,e,hd⟩
  .refine⟨⟨o,I.kIn p o hk,hc⟩,λa e=>?_⟩;cases e;exact⟨o,I.kIn _ o hk,hd⟩
  .have z:∃o,s.heap.get? p=some o/\o.ExactDict:=by
    obtain⟨kvs,hk⟩:=hk;obtain⟨_,_,_,_,o,_,_,e,ex,_⟩:=I.hok p _ hk;exact⟨o,e,ex⟩
   obtain⟨o,e,ex⟩:=z;refine⟨⟨o,e,ex.1⟩,λa e2=>?_⟩;cases e2;exact⟨o,e,ex.2.1⟩
  .obtain⟨o,_,_,_,e,ex,_⟩:=I.hok p _ hk;refine⟨⟨o,e,ex.1⟩,λa e2=>?_⟩;cases e2;exact⟨o,e,ex.2.1⟩
 |_=>exact False.elim ty
def amY(K:Frag)(T:String)(r:V->Ε->Hp->VK->Prop)(to:TE):TE:=λσ H Q=>to σ H λx H1=>tyV K T x H1/\r x [] H1 Q
def tBM(K:Frag)(T:String)(r:V->Ε->Hp->VK->Prop)(to:TE)(t:TA):TE:=λσ H Q=>to σ H λx H1=>tyV K T x H1/\t σ H1 λxs H2=>r x xs H2 Q
variable{o e:Expr}{es:List Expr}{to:TE}{t:TA}{name:Str}{ag af:Pos}{T id:String}{r:V->Ε->Hp->VK->Prop}
abbrev zD(a b:Pos):Prop:=(a.endLine==b.line)=true
def afm(pa:PlainAttrs T)(slot:Slot T name id)(ie:typeOf (.builtin id)=pure (.type "method_descriptor"))(hm:MtR X id r)(ho:PE X o to)
 (fy:zt X o name:=by rfl)(fw:zD ag af:=by rfl):PE X (.Call (.Attribute o name ag) [] [] af) (amY X.K T r to):=by
 intro aa s σ H Q I h;refine wpAny_Call_method0_late fy fw (thn (ho aa s σ H _ I h) λv s1 hP=>?_);obtain⟨x,H1,I1,r1,ty,q1⟩:=hP;obtain⟨h1,h2⟩:=Zt I1 r1 ty;exact⟨T,id,pa,slot,ie,h1,h2,Calls.callWith_builtin rfl (PySem.evalArgs_none (hm aa s1 σ H1 x [] v [] Q I1 r1 .nil q1))⟩
def aei(pa:PlainAttrs T)(slot:Slot T name id)(ie:typeOf (.builtin id)=pure (.type "method_descriptor"))(hm:MtR X id r)(ho:PE X o to)(ha:PA X (e::es) t)
 (fy:zt X o name:=by rfl)
 (oQ:((backTo af (starEach (e::es) X.env)).all (λx=>!x.1)&&(backToKw af (keywordEach [] X.env)).all (λx=>x.1.isSome)
   && decide ((e::es).length+([] : List Keyword).length+(if([] : List Keyword).isEmpty then 0 else 1)<30))=true:=by rfl)
 (fw:zD ag af:=by rfl)(hs:zb X e es:=by rfl)(im:zg X af es:=by rfl) :
  PE X (.Call (.Attribute o name ag) (e::es) [] af) (tBM X.K T r to t):=by
 intro aa s σ H Q I h;refine wpAny_Call_method_late fy oQ fw rfl (thn (ho aa s σ H _ I h) λv s1 hP=>?_);obtain⟨x,H1,I1,r1,ty,q1⟩:=hP;obtain⟨h1,h2⟩:=Zt I1 r1 ty;refine⟨T,id,pa,slot,ie,h1,h2,?_⟩;have hA:=ha af aa s1 σ H1 _ I1 q1;rw[hs]at hA ⊢;refine Calls.callWith_builtin (by show(false || (backTo af (starEach es X.env)).any (·.1))=false;rw[im]<;>rfl) (Calls.evalArgs_plain ?_);exact thn hA λus s2 hP=>by obtain⟨vs,H2,I2,r2,q2⟩:=hP;exact hm aa s2 σ H2 x vs v us Q I2 r1 r2 q2

end
def MtM(X:Cx)(id:String)(r:V->Ε->Hp->VK->Prop):Prop :=
 ∀(aa:Γ)(s:Shared)(σ:St)(H:Hp)(x:V)(xs:Ε)(v:Value)(us:Δ)(Q:VK),Inv X aa σ H s->RelV x v->Vals xs us->r x xs H Q ->
  wpAny (model X.prog X.w) X.A (call (.builtin id) (v::us)) (EP X aa σ Q) X.xe s
def Vals.one:∀{x:V}{us:Δ},Vals [x] us->∃u,us=[u]/\RelV x u
 |_,_,.cons r .nil=>⟨_,rfl,r⟩
def Vals.two{x y:V}{us:Δ}(h:Vals [x,y] us):∃u v,us=[u,v]/\RelV x u/\RelV y v:=by
 cases h with|cons r t=>cases t with|cons q t=>cases t;exact⟨_,_,rfl,r,q⟩
def Vals.zero:∀{us:Δ},Vals [] us->us=[]
 |_,.nil=>rfl
def Vals.reverse{xs:Ε}{us:Δ}(h:Vals xs us):Vals xs.reverse us.reverse:=by
 induction h with
 |nil=>exact .nil
 |cons r t ih=>rw[List.reverse_cons,List.reverse_cons];exact Vals.append ih (.cons r .nil)
theorem Vals.rep{xs:Ε}{us:Δ}(h:Vals xs us):∀k:Nat,Vals (List.replicate k xs).flatten (List.replicate k us).flatten
 |0=>.nil
 |k+1=>by
  rw[List.replicate_succ,List.replicate_succ,List.flatten_cons,List.flatten_cons];exact Vals.append h (Vals.rep h k)
theorem foldl_rep(its:Δ):∀(k:Nat)(acc:Δ),
  List.foldl (λx1 x2=>x1++x2) acc.toArray (List.replicate k its.toArray)=(acc++(List.replicate k its).flatten).toArray
 |0,acc=>by simp
 |k+1,acc=>by
  have e:acc.toArray++its.toArray=(acc++its).toArray:=by simp
  have e2:(acc++its)++(List.replicate k its).flatten=acc++(List.replicate (k+1) its).flatten:=by
   rw[List.replicate_succ,List.flatten_cons,Wp]
  rw[<- e2,<- foldl_rep its k (acc++its),<- e,List.replicate_succ,List.foldl_cons]
section
variable{X:Cx}{aa:Γ}{σ:St}{H:Hp}{s:Shared}{l b:Addr}{xs ys zs:Ε}
def Inv.lset{its its':Δ}{n:Nat}{f:Array Value->Array Value}{t':Nat}(I:Inv X aa σ H s)(hH:H l=some (.lst xs))
 (e:s.heap.get? l=some { cls:=.type "list",data:=.seq its.toArray n })(hf:f its.toArray=its'.toArray)(hv:Vals ys its')(hz:ys.length<=sizeLine) :
  Inv X aa σ (upd H l (.lst ys)) { s with heap:=s.heap.update l (Obj.mapSeq f),toks:=t' }:=by
 have q:=PySem.IsL.update e f;rw[hf]at q;refine I.write (x:=l) (e:=l) (by rw[hH];exact trivial) (.inl rfl) (λb' u hb hu=>(Heap.get?_update_other s.heap (Obj.mapSeq f) (Ne.symm hb)).trans hu) ⟨_,q⟩ ?_;exact⟨hz,its',_,hv,q⟩
def Inv.lnew{its:Δ}{t':Nat}(I:Inv X aa σ H s)(hv:Vals ys its)(hz:ys.length<=sizeLine) :
  Inv X aa σ (upd H s.heap.objs.size (.lst ys)) { s with heap:=s.heap.push { cls:=.type "list",data:=.seq its.toArray },toks:=t' } :=
 I.laid (λ_ _ q=>aH _ q) (aG _) ⟨hz,its,0,hv,aW _ rfl⟩
def Inv.fresh(I:Inv X aa σ H s):H s.heap.objs.size=none:=I.hok.fresh (aG _)
def Inv.lstM(I:Inv X aa σ H s)(hH:H l=some (.lst xs)):xs.length<=sizeLine/\∃(its:Δ)(n:Nat),Vals xs its/\xs.length=its.length/\s.heap.get? l=some { cls:=.type "list",data:=.seq its.toArray n }:=by
 obtain⟨z,its,n,r,e⟩:=I.hok l _ hH;exact⟨z,its,n,r,r.length,e⟩
def aac{n:Nat}(h:n<=sizeLine):Builtin.List.listTooLong n=false:=by
 unfold Builtin.List.listTooLong;exact Zp (UR h)
end
section
variable{X:Cx}
def ab8:V->Ε->Hp->VK->Prop:=λx vs H Q=>∃l xs y,x=.ref l/\vs=[y]/\H l=some (.lst xs)/\xs.length<sizeLine/\Q .non (upd H l (.lst (xs++[y])))
def Lh:MtM X "list.append" ab8:=by
 intro aa s σ H x vs v us Q I rx rv h;obtain⟨l,xs,y,rfl,rfl,hH,hz,q⟩:=h;cases rx;obtain⟨u,rfl,ru⟩:=rv.one;obtain⟨z,its,n,r,hl,e⟩:=I.lstM hH;refine call_meets F.slot_list_append ⟨_,e,rfl⟩ F.entry_list_append (F.args_list_append_2 _ _) (PySem.list_append l its.toArray n u (by rw[aX];lia)) ⟨e,?_⟩;refine⟨.non,_,I.lset (its':=its++[u]) hH e (by simp) (r.append (.cons ru .nil)) ?_,rfl,q⟩;rw[aA,List.length_singleton];exact hz
def abo:V->Ε->Hp->VK->Prop:=λx vs H Q=>∃l xs,x=.ref l/\vs=[]/\H l=some (.lst xs)/\Q .non (upd H l (.lst xs.reverse))
def Vo:MtM X "list.reverse" abo:=by
 intro aa s σ H x vs v us Q I rx rv h;obtain⟨l,xs,rfl,rfl,hH,q⟩:=h;cases rx;have hus:=rv.zero;subst hus;obtain⟨z,its,n,r,hl,e⟩:=I.lstM hH;refine call_meets F.slot_list_reverse ⟨_,e,rfl⟩ F.entry_list_reverse (F.args_list_reverse_1 _) (AutoSeq1.list_reverse_list_0 l its.toArray n (by rw[aX];lia)) ⟨e,?_⟩;refine⟨.non,_,I.lset (its':=its.reverse) hH e (by simp) r.reverse ?_,rfl,q⟩;rw[List.length_reverse];omega
def amN:R2:=λx y H Q=>∃l b xs zs,x=.ref l/\y=.ref b/\H l=some (.lst xs)/\H b=some (.lst zs)/\xs.length+zs.length<=sizeLine/\∀p,H p=none->Q (.ref p) (upd H p (.lst (xs++zs)))
def ag4:OpR X (binaryOp .Add) amN:=by
 intro aa s σ H x y v u Q I rx ry h;obtain⟨l,b,xs,zs,rfl,rfl,hH,hB,hz,q⟩:=h;cases rx;cases ry;obtain⟨z,its,n,r,hl,e⟩:=I.lstM hH;obtain⟨z2,kn,n2,r2,k8,e2⟩:=I.lstM hB;refine PySem.P.add_list e e2 ?_ (by rw[aX,aX];lia);have ea:its.toArray++kn.toArray=(its++kn).toArray:=by simp
 rw[ea];exact⟨.ref _,_,I.lnew (t':=s.toks) (r.append r2) (by rw[aA];omega),rfl,q _ I.fresh⟩
def amR:R2:=λx y H Q=>∃l k xs,x=.ref l/\y=.int k/\H l=some (.lst xs)/\-(2^63)<=k/\k<2^63/\xs.length*k.toNat<=sizeLine /\
 ∀p,H p=none->Q (.ref p) (upd H p (.lst (List.replicate k.toNat xs).flatten))
def len_rep{α:Type}(xs:List α)(k:Nat):(List.replicate k xs).flatten.length=k*xs.length:=by
 induction k with
 |zero=>simp
 |succ k ih=>rw[List.replicate_succ,List.flatten_cons,aA,ih,Nat.succ_mul,Nat.add_comm]
def afv:OpR X (binaryOp .Mult) amR:=by
 intro aa s σ H x y v u Q I rx ry h;obtain⟨l,k,xs,rfl,rfl,hH,h1,h2,hz,q⟩:=h;cases rx;obtain⟨t,rfl⟩:=ry;obtain⟨z,its,n,r,hl,e⟩:=I.lstM hH;have a9:its.toArray.size*k.toNat<=sizeLine:=by rw[aX,<- hl];exact hz
 have p4:¬its.toArray.size*k.toNat>(2^63-1)/8:=by
  have:(sizeLine:Nat)<=(2^63-1)/8:=by decide
  lia
 have oP:¬(!Builtin.List.listFitsIndex k)=true:=by
  rw[fitsIndex_both h1 h2];exact bh
 have kB:¬Builtin.List.listTooLong (its.toArray.size*k.toNat)=true:=by
  rw[aac a9];exact bh
 have og:List.foldl (λx1 x2=>x1++x2) #[] (List.replicate (if its.toArray.isEmpty=true then 0 else k.toNat) its.toArray)=(List.replicate k.toNat its).flatten.toArray:=by
  have f0:∀m:Nat,List.foldl (λx1 x2=>x1++x2) #[] (List.replicate m its.toArray)=(List.replicate m its).flatten.toArray:=λm=>by
   have:=foldl_rep its m [];rw[List.nil_append]at this;exact this
  rw[f0];cases its with
  |nil=>simp
  |cons a r'=>rw[ZZ (by simp)]
 refine wpAny_binaryOp_repeat_ref (T:="list") (U:="int") (by decide) ⟨_,e,rfl⟩ (λs'=>typeIs_int s' k t) noFill_list_mul F.fills_int_mul F.slot_int_rmul repeat_list F.slot_int_index.lookup
  (call_meets F.slot_int_rmul (typeIs_int s k t) F.entry_int_rmul (F.args_int_rmul_2 _ _) (int___rmul___int_list k t l its.toArray n)
   ⟨e,rfl,⟨_,e,rfl⟩,call_meets F.slot_list_mul ⟨_,e,rfl⟩ F.entry_list_mul (F.args_list_mul_2 _ _) (AutoListH.list___mul___list_int_3 l its.toArray n k t oP p4 kB) ⟨e,?_⟩⟩)
 rw[og];exact⟨.ref _,_,I.lnew (t':=s.toks) (r.rep k.toNat) (by rw[len_rep,TH];exact hz),rfl,q _ I.fresh⟩
end
end L2
namespace Att
open PySem PySem.W PySem.Calls PyProof.Rows
def Et{P:Params}{h:Heap} : ∀(ns:List Int)(vs:Δ),WellAll P h vs (ns.map WData.int)->IntsAre vs ns:=by
 intro ns
 induction ns with
 |nil =>
  intro vs w;rw[List.map_nil]at w;cases w;exact .nil
 |cons n ns ih =>
  intro vs w;rw[List.map_cons]at w;cases w with
  |cons a b =>
   cases a;exact .cons _ _ (ih _ b)
def Yk{l:OpenLaw}{n:Nat}(hn:l.most=some n){P:Params}{h:Heap}{args:List WData}{hV:Δ}
 (eR:l.row.toRowW.claim.pre args=true)(nh:WellAll P h hV args) :
  ∃a vs ns,hV=[Value.ref a]/\args=[WData.list (ns.map WData.int)]/\h.get? a=some { cls:=.type "list",data:=.seq vs.toArray }/\IntsAre vs ns/\ns.length<=n:=by
 have gy:WShape.hasAll [] args [.list .int]=true:=(pre_splitW eR).1;have hc:l.pre.holds [] { args:=args }=true:=(pre_splitW eR).2;obtain⟨d,r,rfl,h1,h2⟩:=hasAllW_cons gy;obtain rfl:=hasAllW_nil h2;obtain⟨xs,rfl,h3⟩:=hasW_list h1;obtain⟨ns,rfl⟩:=items_int h3;have a9:ns.length<=n:=by
  unfold OpenLaw.pre at hc;have h4:(WTm.not (.lt (.lit (.int (n:Int))) (.len (.arg 0)))).holds [] { args:=[.list (ns.map .int)] }=true:=by
   have h4:=(holds_andW hc).1;rw[hn]at h4;exact h4
  have h5:=condW_of h4 (w_not (w_lt w_lit (w_len_list (w_arg rfl))));rw[ak]at h5;refine VS λq=>?_;have q':(n:Int)<((ns.length:Nat):Int):=by omega
  first
   |(rw[Zs q']at h5;exact absurd h5 (by decide))
   |(simp at h5;omega)
 cases nh with
 |cons w1 w2 =>
  cases w2;cases w1 with
  |list ho iN=>exact⟨_,_,ns,rfl,rfl,ho,Et ns _ iN,a9⟩
def Yy(l:OpenLaw)(args:List WData):l.row.toRowW.claim.post args (.bool true) args=true :=
 postW_of (r:=l.row.toRowW) (X:=(true==true))
  (show WShape.has [] (.bool true) .bool=true by first|rfl|decide|simp[WShape.has,WShape.arms,WShape.armsAll])
  (show(WTm.eq .res (.lit (.bool true))).value [] { args:=args,res:=some (.bool true),after:=args }=some (.bool (true==true))from w_eq_bool (w_res rfl) w_lit) rfl
def Qn{l:OpenLaw}{n:Nat}{q:Program}{loose:Θ}{XP:(Str->Ψ)->Heap->Prop}{YP:World->Heap->Prop}{d:DefRec}
 (hn:l.most=some n)(kF:d.params.defaults=[])
 (call:∀(w:World)(s₀ s₁:Shared)(mg mb:Str->Ψ)(fa:Addr)(o:Obj)(pm cd bS:Value)(a:Addr)(vs:Δ)(ns:List Int),
   Ground q loose [] XP w s₀ mg mb s₁.heap->YP w s₁.heap ->
   s₁.heap.get? fa=some o->o.data=.func (docDef d.name d.params d.body d.scope pm cd bS)->s₁.heap.CodeRec cd d.name->mg d.name=some (.ref fa) ->
   s₁.heap.get? a=some { cls:=.type "list",data:=.seq vs.toArray }->IntsAre vs ns->ns.length<=n->s₁.gens = #[] ->
   codeAny (model l.prog w) callerA (.call (.ref fa) ⟨[.ref a],[]⟩) (λr s'=>r=.ok (.ret (.bool true))/\OldK s₁.heap s'.heap/\s'.os=s₁.os/\AllBare s'.gens) s₁) :
  WalkO q loose XP YP l.row.toRowW d [] (λf vs=>PySem.call f vs):=by
 intro w s₀ s₁ mg mb G Y fa o pm cd bS dV kV ho hd a8 hD gL hg args hV as eR hlay hrd nh hlo;obtain rfl:dV=.none:=Dflts.none hD kF;obtain rfl:kV=.none:=Dflts.noKw hD;obtain⟨a,vs,ns,rfl,rfl,io,fx,a9⟩:=Yk hn eR nh;refine enter_call (codeAny_mono (call w s₀ s₁ mg mb fa o pm cd bS a vs ns G Y ho (fd_plain hd) a8 gL io fx a9 hg) λr s' hq=>?_);obtain⟨rfl,h2,h3,h4⟩:=hq;exact⟨.inl ⟨.bool true,.bool true,[],rfl,λ_=>rfl,.bool true,Yy l _,λ_=>⟨List.Pairwise.nil,λ_ hm=>(nomatch hm)⟩⟩,h2,h3,h4⟩
end Att
namespace L2
open PySem PySem.Spec PyProof.Rows
theorem DQ:∀{vs:Δ}{ns:List Int},IntsAre vs ns->Vals (ns.map V.int) vs
 |_,_,.nil=>.nil
 |_,_,.cons n t h=>.cons ⟨t,rfl⟩ (DQ h)
def Only(H:Hp):Prop:=∀b,H b=none\/∃o xs,H b=some (.frz o (.lst xs))
def aaF{P:Program}{w:World}{K:Frag}{mg mb:Str->Ψ}{CX:CXT}{k:Nat}{fa a:Addr}{fd:FuncData}{x:Str}{sp:Sp}{s₁:Shared}{vs:Δ}{ns:List Int}
 (KX:K.In s₁.heap)(eK:s₁.heap.Ns mainGlobals mg)(hb:s₁.heap.Ns builtinsNs mb)(hbb:∀x:Str,x≠"__name__"->mb x=bootBuiltins x)(oq:s₁.heap.NoLimit)(hg:s₁.gens = #[])
 (ha:s₁.heap.get? a=some { cls:=.type "list",data:=.seq vs.toArray })(hi:IntsAre vs ns)(hl:ns.length<=sizeLine)(hr:dh k callerA)
 (F:∀base:Heap,K.In base->base.Ns mainGlobals mg->dI P w K mg base CX k fa fd [x] sp)(kK:∀(s:Shared)(u:Value),BindsTo s fd ⟨[u],[]⟩ [(x,u)])
 (eW:∀H:Hp,Only H->SqL K H a (ns.map V.int)->sp [.ref a] H (λv _=>v=.bl true) λ_ _ _=>False)
 (qh:∀H e s',CX [] H s₁ (λ_ _ _=>False) e s'->False) :
  codeAny (model P w) callerA (.call (.ref fa) ⟨[.ref a],[]⟩) (λr s'=>r=.ok (.ret (.bool true))/\OldK s₁.heap s'.heap/\s'.os=s₁.os/\AllBare s'.gens) s₁:=by
 have rv:=DQ hi;have mP:=hi.length

 have core:∀H:Hp,Only H->SqL K H a (ns.map V.int)->HOk P w H s₁.heap->(∀b,H b≠none->b=a)->(H a≠none->K.lookup a=none) ->
   codeAny (model P w) callerA (.call (.ref fa) ⟨[.ref a],[]⟩) (λr s'=>r=.ok (.ret (.bool true))/\OldK s₁.heap s'.heap/\s'.os=s₁.os/\AllBare s'.gens) s₁:=by
  intro H hO hS hok hA hK;have eP:∀{b:Addr}{o:Obj},s₁.heap.get? b=some o->H b=none->(Mz s₁.heap H).get? b=some o:=λe n=>aai e n;have ka:∀{b:Addr}{o:Obj}{es:Array DictEntry}{ep:Nat},s₁.heap.get? b=some o->o.data=.dict es ep->H b=none:=λ{b o es ep}e d=>by
   cases q:H b with
   |none=>rfl
   |some u =>
    have e':b=a:=hA b (by rw[q];simp);subst e';rw[ha]at e;cases e;have d':Data.seq vs.toArray _=Data.dict es ep:=d;cases d'
  have kS:∀{b:Addr}{m:Str->Ψ},s₁.heap.Ns b m->(Mz s₁.heap H).Ns b m:=λ{b m}⟨o,es,ep,e,d,r⟩=>⟨o,es,ep,eP e (ka e d),d,r⟩;have hKb:K.In (Mz s₁.heap H):=λb o e=>eP (KX b o e) (by
   cases q:H b with
   |none=>rfl
   |some u =>
    have e':b=a:=hA b (by rw[q];simp);subst e';rw[hK (by rw[q];simp)]at e;cases e)
  have hM:Mod K mg (Mz s₁.heap H):=⟨hKb,kS eK,⟨mb,kS hb,hbb⟩,let⟨mc,h1,h2⟩:=oq;⟨mc,kS h1,h2⟩⟩;have e0:R8 P w K mg (Mz s₁.heap H) callerA [] s₁ H:=⟨rfl,hM,λb o e=>acU e,WG (Yd _ _),trivial,λb hb=>absurd (show b∈([] : Φ)from hb) (by simp),hok,.of_eq hg⟩;refine codeAny_mono ((F _ hKb (kS eK)).run callerA [] s₁ H ⟨[.ref a],[]⟩ [.ref a] [.ref a] _ _ hr e0 (kK s₁ (.ref a)) (.cons rfl .nil) (eW H hO hS)) λr s' h=>?_;cases r with
  |error e=>exact(qh H e s' h).elim
  |ok fl =>
   cases fl with
   |next=>exact False.elim h
   |brk=>exact False.elim h
   |cont=>exact False.elim h
   |ret u =>
    obtain⟨v,H',os,bare,un,hok',r',q⟩:=h;have q':v=.bl true:=q;subst q';obtain rfl:u=Value.bool true:=r';refine⟨rfl,OldK.of_keep λb o e=>?_,os,bare⟩;cases q:H b with
    |none=>exact un.keep b o e q (by intro z;exact absurd (show b∈([] : Φ)from z) (by simp)) (by simp)
    |some u =>
     rcases hO b with z|⟨ob,xs,z⟩
     .rw[q]at z;cases z
     .have z2:=un.frzs b ob _ z;obtain⟨e1,_⟩:=hok b _ z;obtain⟨e2,_⟩:=hok' b _ z2;rw[e]at e1;cases e1;exact e2
 cases hk:K.lookup a with
 |some o =>

  have e:=KX a o hk;rw[ha]at e;cases e;refine core (λ_=>none) (λ_=>.inl rfl) (.inr ⟨_,vs.toArray,_,hk,rfl,rfl,rfl,by rw[aX,mP];exact hl,by simpa using rv⟩) (λb u z=>by have z':(none:Option HO)=some u:=z;cases z') (λb z=>absurd rfl z) λz=>absurd rfl z
 |none =>
  refine core (λb=>if b=a then some (.frz { cls:=.type "list",data:=.seq vs.toArray } (.lst (ns.map V.int)))else none) (λb=>?_) (.inl (.inr ⟨{ cls:=.type "list",data:=.seq vs.toArray },ZY rfl⟩)) (λb u z=>?_) (λb z=>?_) λ_=>hk
  .by_cases hb:b=a
   .exact .inr ⟨_,_,ZY hb⟩
   .exact .inl (ZZ hb)
  .by_cases hb:b=a
   .have z':=(ZY hb).symm.trans z;cases z';subst hb;exact⟨ha,by rw[ak];exact hl,vs,_,rv,ha⟩
   .have z':=(ZZ hb).symm.trans z;cases z'
  .by_cases hb:b=a
   .exact hb
   .exact absurd (ZZ hb) z
abbrev KOf{K:Frag}{h:Heap}(_:K.In h):Frag:=K
def WL{l:PySem.W.OpenLaw}{n k:Nat}{q:Program}{loose:Θ}{XP:(Str->Ψ)->Heap->Prop}{YP:World->Heap->Prop}{d:DefRec}{K:Params->Frag}{CX:World->CXT}{sp:World->Sp}{x:Str}
 (hn:l.most=some n)(i7:n<=sizeLine)(kF:d.params.defaults=[])(hr:dh k callerA)
 (hY:∀(w:World)(h:Heap),YP w h->(K w.params).In h)
 (F:∀(w:World)(mg:Str->Ψ)(fa:Addr)(h:Heap),(K w.params).In h->h.Ns mainGlobals mg->mg d.name=some (.ref fa) ->
   ∃fd:FuncData,(∀(s:Shared)(u:Value),BindsTo s fd ⟨[u],[]⟩ [(x,u)]) /\
    ∀base:Heap,(K w.params).In base->base.Ns mainGlobals mg->dI l.prog w (K w.params) mg base (CX w) k fa fd [x] (sp w))
 (eW:∀(w:World)(H:Hp)(a:Addr)(ns:List Int),ns.length<=n->Only H->SqL (K w.params) H a (ns.map V.int)->sp w [.ref a] H (λv _=>v=.bl true) λ_ _ _=>False)
 (qh:∀(w:World)(H:Hp)(s:Shared)(e:Value)(s':Shared),CX w [] H s (λ_ _ _=>False) e s'->False) :
  PySem.W.WalkO q loose XP YP l.row.toRowW d [] (λf vs=>PySem.call f vs):=by
 refine Att.Qn hn kF λw s₀ s₁ mg mb fa o pm cd bS a vs ns G Y ho hd a8 gL io fx a9 hg=>?_;have KX:=hY w _ Y;obtain⟨fd,hb,hF⟩:=F w mg fa _ KX G.T.g gL;exact aaF KX G.T.g G.T.b G.T.builtins G.T.nolimit hg io fx (aL a9 i7) hr hF hb (λH hO hS=>eW w H a ns a9 hO hS) λH e s'=>qh w H s₁ e s'
end L2

namespace L2
open PySem PySem.Spec PyProof.Rows
abbrev CX0:CXT:=λ_ _ _ _ _ _=>False
abbrev E0:XK:=λ_ _ _=>False
def Lf{X:Cx} : Passes CX0 X E0:=λ_ _ _ _ _ _ _ h=>h.elim
structure Fun(K:Frag)(x ah:Str)(st:Stmt)(f:Addr)(fd:FuncData):Prop where
 ex:∃(oc:Value)(od:Ω)(kV bS pm:Value)(an:Ω)(ai ct:Value)(dt:Array (Ψ)),
  fd=PySem.W.fnOf x ah (jG st) (eU st) (bF st) .none kV bS pm an ai ct/\K.lookup f=some ⟨oc,od,.func fd,dt⟩/\codeIn K ai ah=true
 kp:keepIn K (.ref f)=true
section
variable{P:Program}{w:World}{K:Frag}{mg:Str->Ψ}{base:Heap}
def Fun.ok{x ah:Str}{st:Stmt}{f:Addr}{fd:FuncData}{N ps:Θ}{k:Nat}{sp:Sp}(F:Fun K x ah st f fd)(S:bK N ps (bF st))(len:∀vs H Q E,sp vs H Q E->vs.length=ps.length)
 (be:∀(ai:Value)(A:Around)(outer:List Env)(s:Shared)(H:Hp)(vs:Ε)(Q:VK)(E:XK),dh k (A.deeper (envOfC ah (bF st) s.heap.objs.size f ai))->sp vs H Q E ->
   ∃t,PSs (zX CX0 P w K mg base N ah (bF st) f ai A outer s H E).nox (eU st) t/\t { nx:=λ_ H'=>Q .non H',rt:=Q } (start N vs) H):dI P w K mg base CX0 (k+1) f fd ps sp:=by
 obtain⟨oc,od,kV,bS,pm,an,ai,ct,dt,rfl,lk,a8⟩:=F.ex;refine aeB lk a8 S len λA outer s H vs Q E hr eW=>?_;obtain⟨t,h,q⟩:=be ai A outer s H vs Q E hr eW;exact⟨t,h.nox,q⟩
def aal{x ah:Str}{st:Stmt}{f:Addr}{oc:Value}{od an:Ω}{dt:Array (Ψ)}{kV bS pm ai ct:Value}(l:K.lookup f=some ⟨oc,od,.func (PySem.W.fnOf x ah (jG st) (eU st) (bF st) .none kV bS pm an ai ct),dt⟩)
 (c:codeIn K ai ah=true)(k:keepIn K (.ref f)=true):Fun K x ah st f (PySem.W.fnOf x ah (jG st) (eU st) (bF st) .none kV bS pm an ai ct):=⟨⟨oc,od,kV,bS,pm,an,ai,ct,dt,rfl,l,c⟩,k⟩
end
def za{A:Around}{k:Nat}(hr:dh k A):A.units+1<cLine:=Y3 (Nat.add_le_add_left (by decide:1<=64) _) hr.units
section
variable{X:Cx}
def pP(sc:Scope)(x:Str):Bool:=(sc.names.lookup x).any λk=>k == .local || k == .cell || k == .free
def afg{sc:Scope}{x:Str}(h:pP sc x=true):Vis sc x:=by
 unfold pP at h;unfold Vis;cases e:sc.names.lookup x with
 |none=>rw[e]at h;cases h
 |some k=>rw[e]at h;cases k<;>first|exact .inl rfl|exact .inr (.inl rfl)|exact .inr (.inr rfl)|cases h
def pv(i:Nat){x:Str}{pos:Pos}(hN:X.N[i]?=some x:=by rfl)(hv:pP X.env.scope x=true:=by rfl)(hd:zk x:=by decide)
 (a8:zw x:=by decide):PE X (.Name x pos) (aj2 i):=ae7 hN (afg hv) hd a8
end
def amo{A B:Prop}(h:B):if false=true then A else B:=by
 rw[ZZ bh];exact h
def am5{A B:Prop}(h:A):if true=true then A else B:=by
 rw[ZY rfl];exact h
def Same(H H':Hp):Prop:=∀b o,H b=some o->H' b=some o
def Same.refl(H:Hp):Same H H:=λ_ _ h=>h
def Same.trans{H H1 H2:Hp}(a:Same H H1)(b:Same H1 H2):Same H H2:=λc o h=>b c o (a c o h)
def Same.free{H H':Hp}(e:Same H H'){l:Addr}(h:H' l=Option.none):H l=Option.none:=by
 cases q:H l with
 |none=>rfl
 |some o =>
  rw[e l o q]at h;cases h
def Same.seq{K:Frag}{H H':Hp}{a:Addr}{xs:Ε}(e:Same H H')(h:SqL K H a xs):SqL K H' a xs:=by
 rcases h with(h|⟨o,h⟩)|h
 .exact .inl (.inl (e _ _ h))
 .exact .inl (.inr ⟨o,e _ _ h⟩)
 .exact .inr h
def Bd(i:Int):Prop:=i.natAbs<2^8000
def Bd.log2{i:Int}(h:Bd i):i.natAbs.log2<8000:=by
 by_cases h0:i.natAbs=0
 .rw[h0,Nat.log2_zero];exact UK _
 .exact(Nat.log2_lt h0).mpr h
def Bd.bits{i:Int}(h:Bd i):Builtin.Int.intBits i<=2^20:=by
 have e:(2:Nat)^20=1048576:=by decide
 have:=h.log2;unfold Builtin.Int.intBits;split
 .exact aZ _
 .lia
section
variable{X:Cx}
def adA:OpR X (binaryOp .Mult) (rI (λi j=>Bd i/\Bd j) λi j=>.int (i*j)):=opI λ_ _ _ _ _ _ _ hc q=>mul_int q (.of_bits hc.1.bits hc.2.bits)
def abu:OpR X (binaryOp .FloorDiv) (rI (λ_ j=>j≠0/\Bd j) λi j=>.int (i.fdiv j)):=opI λ_ _ _ _ _ _ _ hc q=>floordiv_int hc.1 q (.inl (PyProof.noPylong_of_log2 (by have:=hc.2.log2;exact Ts this (by decide))))
def Qg:jq X (.builtin "isinstance") (λxs H Q=>∃x c cv t b,xs=[x,c]/\((∃T,c=.ty T/\cv=Value.type T)\/∃C,c=.ref C/\cv=Value.ref C)/\Df X.K H x t/\kitOne X.K t cv=some b/\Q (.bl b) H):=by
 intro aa s σ H xs us Q I r h;obtain⟨x,c,cv,t,b,rfl,rc,ty,e,q⟩:=h;obtain⟨u,v,rfl,ru,rv⟩:=r.two;have e2:v=cv:=by
  rcases rc with⟨T,rfl,rfl⟩|⟨T,rfl,rfl⟩
  .exact rv
  .exact rv
 subst e2;exact Yt I ru ty e λtk=>⟨.bl b,H,I.tok _,rfl,q⟩
def Ra:jq X (.builtin "sorted") (λxs H Q=>∃l ns,xs=[.ref l]/\SqL X.K H l (ns.map V.int)/\ns.length<64/\∀(ms:List Int)p,H p=none->ms.Perm ns->ms.Pairwise (· <= ·)->Q (.ref p) (upd H p (.lst (ms.map V.int)))):=by
 intro aa s σ H xs us Q I r h;obtain⟨l,ns,rfl,hl,h64,q⟩:=h;obtain⟨u,rfl,ru⟩:=r.one;cases ru;obtain⟨its,rv,p,hz⟩:=I.list hl;have hI:=intsAre_of rv;have a9:its.length=ns.length:=by have:=rv.length;simpa using this.symm
 refine sorted_ints (vs:=its) p.isList hI (Y3 (WG a9) h64) λout ns' a1 a2 a3=>?_;obtain⟨e,he⟩:=sortedAll_at s.heap its out;have dA:H (s.heap.objs.size+1)=none:=I.hok.fresh (Xs _);refine⟨.ref _,_,I.laid (a:=s.heap.objs.size+1) (o:=.lst (ns'.map V.int)) (t':=s.toks) (λb u e=>sortedAll_old e) (Xs _) ?_,rfl,q ns' _ dA a2 a3⟩;refine⟨?_,out.toList,e,DQ a1,he⟩;rw[ak,a2.length_eq];rw[ak]at hz;exact hz
end
section
variable{prog:Program}{w:World}{A:Around}{E:Β}{s:Shared}
theorem K3{it t:Addr}{items:Array Value}(iq:t≠it):∀(n i:Nat)(s:Shared)(Q:Δ->Shared->Prop),s.heap.IsListIter it t i->PlainL s.heap t items->i+n<=items.size ->
  (∀h',h'.IsListIter it t (i+n)->Heap.SameBut it s.heap h'->Q ((items.toList.drop i).take n) { s with heap:=h' })->wpAny (model prog w) A (draw (.ref it) n) Q E s
 |0,i,s,Q,hit,_,_,hQ=>by
  show wpAny _ _ (pure []) Q E s;exact ZT (by simpa using hQ s.heap hit (Heap.SameBut.refl ..))
 |n+1,i,s,Q,hit,ht,hle,hQ=>by
  have eL:i<items.size:=by lia
  show wpAny _ _ (pyNext (.ref it) >>= _) Q E s;refine ZU (wpAny_pyNext_list_item hit ht.isList (x:=items[i]) (by simp[eL]) λh₁ iA kq=>?_);have nE:PlainL h₁ t items:=by
   obtain⟨o,k,e,r⟩:=ht;exact⟨o,k,(kq.2 t iq).trans e,r⟩
  refine ZU (wpAny_holding (K3 iq n (i+1) _ _ iA nE (by lia) λh₂ oy hs₂=>ZT ?_));have hd:items.toList.drop i=items[i]::items.toList.drop (i+1):=by simp[Q1,eL]
  have:=hQ h₂ (by rw[show i+(n+1)=i+1+n by lia];exact oy) (kq.trans hs₂);rw[hd,List.take_succ_cons]at this;exact this
def DP{t:Addr}{items:Array Value}{Q:Δ->Shared->Prop}(hh:A.handled=none)(ht:PlainL s.heap t items)
 (hQ:∀h',Heap.ExtBut s.heap.objs.size s.heap h'->Q items.toList { s with heap:=h' }):wpAny (model prog w) A (unpackItems (.ref t) items.size none) Q E s:=by
 have eL:t≠s.heap.objs.size:=by obtain⟨o,_,ho,_⟩:=ht;exact aQ (aK ho)
 unfold unpackItems;refine ZU ?_
 .unfold notIterableAtAll;refine ZU (wpAny_specialOf ht.isList.typeIs slot_list_iter.lookup ?_);refine ZT ?_;simp only[XW,if_false];refine ZU (wpAny_holding (wpAny_pyIter_list ht.isList ?_));have ht0:PlainL (s.heap.push { cls:=.type "list_iterator",data:=.fields #[.ref t,.int 0 0] }) t items:=by
   obtain⟨o,k,e,r⟩:=ht;exact⟨o,k,aH _ e,r⟩
  refine ZU (wpAny_holding (K3 eL items.size 0 _ _ ⟨_,aW _ rfl,rfl,rfl⟩ ht0 (by lia) λh₁ iA kq=>?_));have iN:List.take items.size (List.drop 0 items.toList)=items.toList:=by
   rw[Zyy];exact Zyx (by simp)
  rw[iN];rw[ZZ (by simp)];have nE:PlainL h₁ t items:=by
   obtain⟨o,k,e,r⟩:=ht0;exact⟨o,k,(kq.2 t eL).trans e,r⟩
  refine ZU (wpAny_holding (wpAny_pyNext_list_end hh iA nE.isList (by simp) λh₂ he₂=>?_));simp only[Option.isSome_none,XW,if_false];refine ZT (hQ h₂ λb o hb e=>he₂ b o hb (kq.extBut b o hb (aH _ e)))
def Ag{env:Env}{bE:List Expr}{x1}{pos:Pos}{t:Addr}{items:Array Value}{Q:Unit->Shared->Prop}(hh:A.handled=none)(ht:PlainL s.heap t items)
 (hn:(assignEach bE env).length=items.size)(kr:(assignEach bE env).findIdx? (·.1)=none)
 (h:∀h',Heap.ExtBut s.heap.objs.size s.heap h'->wpAny (model prog w) A (assignInOrder ((assignEach bE env).map (·.2)) items.toList) Q E { s with heap:=h' }) :
  wpAny (model prog w) A (assign (.Tuple bE x1 pos) env (.ref t)) Q E s:=by
 rw[assign_Tuple];refine ZU (wpAny_standAt ?_);unfold unpack;rw[hn,kr];exact ZU (wpAny_holding (DP hh ht h))
end
section
variable{X:Cx}{pos:Pos}
def aho(K:Frag)(n:Nat)(t:TGs):TG:=λv σ H Q=>∃a xs,v=.ref a/\SqL K H a xs/\xs.length=n/\t xs σ H Q
def acJ{es:List Expr}{k:Nat}{t:TGs}{n:Nat}(hc:X.calm=true)(h:PGs X es t)
 (hn:(assignEach es X.env).length=n:=by rfl)(bj:zS X es:=by rfl):PG X (.Tuple es k pos) (aho X.K n t):=by
 intro aa s σ H v u Q I r hw;obtain⟨a,xs,e1,hq,hl,hw⟩:=hw;subst e1;cases r;obtain⟨its,rv,ht,hz⟩:=I.list hq;refine Ag (I.ok.hd hc) ht (by simp[hn,<- hl,rv.length]) bj λh' hx=>?_;have I1:Inv X aa σ H { s with heap:=h' }:=I.kept (t':=s.toks) λb o e=>hx b o (aQ (aK e)) e;exact h aa _ σ H xs _ Q I1 (by simpa using rv) hw
end
def Same.upd{H:Hp}{p:Addr}{o:HO}(hp:H p=none):Same H (upd H p o):=λb u e=>by
 rw[bO (kE e hp)];exact e
section
variable{X:Cx}
def IxR.imp{r r':R2}(h:IxR X r)(i:∀x y H Q,r' x y H Q->r x y H Q):IxR X r':=by
 intro b pos aa s σ H x y v u Q I rx ry q hs;exact h _ _ _ _ _ _ _ _ _ _ _ I rx ry (i _ _ _ _ q) hs
def jq.imp{f:Value}{r r':Ε->Hp->VK->Prop}(h:jq X f r)(i:∀xs H Q,r' xs H Q->r xs H Q):jq X f r':=λaa s σ H xs us Q I rx q=>h aa s σ H xs us Q I rx (i _ _ _ q)
def tyS(H:Hp):V->Option String
 |.non=>some "NoneType"
 |.bl _=>some "bool"
 |.int _=>some "int"
 |.str _=>some "str"
 |.ref a=>match H a with
  |some (.lst _)=>some "list"
  |some (.tup _)=>some "tuple"
  |some (.dK _)=>some "dict"
  |_=>none
 |_=>none
def ae8{K:Frag}{H:Hp}{x:V}{t:String}(h:tyS H x=some t):Df K H x (.type t):=by
 cases x with
 |non=>cases h;exact .non
 |bl=>cases h;exact .bl _
 |int=>cases h;exact .int _
 |str=>cases h;exact .str _
 |byt=>cases h
 |flt=>cases h
 |ty=>cases h
 |ref a =>
  have h:(match H a with
   |some (.lst _)=>some "list"
   |some (.tup _)=>some "tuple"
   |some (.dK _)=>some "dict"
   |_=>none)=some t:=h
  split at h
  .cases h;exact .lst (by assumption)
  .cases h;exact .tup (by assumption)
  .cases h;exact .dK (by assumption)
  .cases h
def Ml(t T:String):Bool:=(t==T) || (t=="bool" && T=="int")
def Wj{K:Frag}{t T:String}(ht:t∈["NoneType","bool","int","str","list","tuple","dict"])(hT:T∈["bool","int","str","list","tuple","dict"]):kitOne K (.type t) (.type T)=some (Ml t T):=by
 simp only[YU,VZ,or_false]at ht hT;rcases ht with rfl|rfl|rfl|rfl|rfl|rfl|rfl<;>rcases hT with rfl|rfl|rfl|rfl|rfl|rfl<;>with_unfolding_all rfl
def agV{H:Hp}{x:V}{t:String}(h:tyS H x=some t):t∈["NoneType","bool","int","str","list","tuple","dict"]:=by
 cases x with
 |non=>cases h;decide
 |bl=>cases h;decide
 |int=>cases h;decide
 |str=>cases h;decide
 |byt=>cases h
 |flt=>cases h
 |ty=>cases h
 |ref a =>
  have h:(match H a with
   |some (.lst _)=>some "list"
   |some (.tup _)=>some "tuple"
   |some (.dK _)=>some "dict"
   |_=>none)=some t:=h
  split at h<;>cases h<;>decide
def anp:Ε->Hp->VK->Prop:=λxs H Q=>∃x T t,xs=[x,.ty T]/\T∈["bool","int","str","list","tuple","dict"]/\tyS H x=some t/\Q (.bl (Ml t T)) H
def uU:jq X (.builtin "isinstance") anp:=Qg.imp λxs H Q hP=>by obtain⟨x,T,t,a,b,c,d⟩:=hP;exact⟨x,.ty T,.type T,.type t,_,a,.inl ⟨T,rfl,rfl⟩,ae8 c,Wj (agV c) b,d⟩
def PG.imp{e:Expr}{t t':TG}(h:PG X e t)(i:∀v σ H Q,t' v σ H Q->t v σ H Q):PG X e t':=λaa s σ H v u Q I r q=>h aa s σ H v u Q I r (i _ _ _ _ q)
def alv(n:Nat)(t:TGs):TG:=λv σ H Q=>∃a xs,v=.ref a/\H a=some (.tup xs)/\xs.length=n/\t xs σ H Q
def acE{es:List Expr}{k:Nat}{t:TGs}{n:Nat}{pos:Pos}(hc:X.calm=true)(h:PGs X es t)(hn:(assignEach es X.env).length=n:=by rfl)(bj:zS X es:=by rfl):PG X (.Tuple es k pos) (alv n t) :=
 (aaC hc h hn bj).imp λv σ H Q hP=>by obtain⟨a,xs,e1,e2,e3⟩:=hP;exact⟨a,xs,e1,.of e2,e3⟩
def ah1:Ε->Hp->VK->Prop:=λxs H Q=>∃l ns,xs=[.ref l]/\H l=some (.lst (ns.map V.int))/\ns.length<64/\∀(ms:List Int)p,H p=none->ms.Perm ns->ms.Pairwise (· <= ·)->Q (.ref p) (upd H p (.lst (ms.map V.int)))
def Xl:jq X (.builtin "sorted") ah1:=Ra.imp λxs H Q hP=>by obtain⟨l,ns,a,b,c⟩:=hP;exact⟨l,ns,a,.of b,c⟩
def akt:V->Option Bool
 |.bl b=>some b
 |.int i=>some (i != 0)
 |.non=>some false
 |_=>none
def ady{K:Frag}{x:V}{H:Hp}{k:Bool}(h:akt x=some k):agN K x H k:=by
 cases x<;>cases h<;>rfl
def amb(ta:TE):TT:=λσ H Q=>ta σ H λx H'=>∃k,akt x=some k/\Q k H'
def agG{a:Expr}{ta:TE}(ha:PE X a ta)(he:∀b7,isTrue a X.env b7=(do let v <- b7;standAt a.pos;holding [v] (truthy v))):PT X a (amb ta):=by
 intro aa s σ H Q I h;exact isTrue_plain (thn (ha aa s σ H _ I h) λv s1 hP=>by obtain⟨x,H1,I1,r1,k,e,q1⟩:=hP;exact Zg aa s1 σ H1 x v Q I1 r1 ⟨k,ady e,q1⟩) (he _)
end
def OkF(P:Program)(w:World)(K:Frag)(mg:Str->Ψ)(base:Heap)(k:Nat)(x:Str)(ps:Θ)(sp:Sp):Prop :=
 ∃f fd,dI P w K mg base CX0 k f fd ps sp/\Binds K fd ps []/\mg x=some (.ref f)/\keepIn K (.ref f)=true
def cQ(K:Frag)(mg:Str->Ψ)(x:Str)(st:Stmt)(ps:Θ):Prop :=
 ∃f fd,Fun K x x st f fd/\(∀us:Δ,us.length=ps.length->bindArgs fd ⟨us,[]⟩=pure (ps.zip us))/\mg x=some (.ref f)
def cQ.ok{P:Program}{w:World}{K:Frag}{mg:Str->Ψ}{base:Heap}{k:Nat}{x:Str}{st:Stmt}{ps:Θ}{sp:Sp}(h:cQ K mg x st ps)
 (hf:∀f fd,Fun K x x st f fd->dI P w K mg base CX0 k f fd ps sp):OkF P w K mg base k x ps sp:=by
 obtain⟨f,fd,a,b,c⟩:=h;exact⟨f,fd,hf f fd a,.all b,c,a.kp⟩
def adn{K:Frag}{h:Heap}{mg:Str->Ψ}{x:Str}{st:Stmt}{ps:Θ}{f:Addr}{oc:Value}{od an:Ω}{dt:Array (Ψ)}{kV bS pm ai ct:Value}(X:K.In h)(G:h.Ns mainGlobals mg)
 (a:nsIn K mainGlobals x=some (some (.ref f)))(l:K.lookup f=some ⟨oc,od,.func (PySem.W.fnOf x x (jG st) (eU st) (bF st) .none kV bS pm an ai ct),dt⟩)
 (c:codeIn K ai x=true)(k:keepIn K (.ref f)=true)
 (hb:∀(kV bS pm:Value)(an:Ω)(ai ct:Value)(us:Δ),us.length=ps.length->bindArgs (PySem.W.fnOf x x (jG st) (eU st) (bF st) .none kV bS pm an ai ct) ⟨us,[]⟩=pure (ps.zip us)):cQ K mg x st ps :=
 ⟨f,_,aal l c k,hb kV bS pm an ai ct,mg_of X G a⟩
def V5(K:Frag):Sp:=λvs H Q _=>∃(a:Addr)(ns:List Int),vs=[.ref a]/\SqL K H a (ns.map V.int)/\ns.length<=63/\Only H/\∀H',Q (.bl true) H'
def aiF{l:PySem.W.OpenLaw}{k:Nat}{x:Str}{q:Program}{loose:Θ}{XP:(Str->Ψ)->Heap->Prop}{YP:World->Heap->Prop}{d:DefRec}{K:Params->Frag}(hn:l.most=some 63)(kF:d.params.defaults=[])
 (hr:dh k callerA)(hY:∀(w:World)(h:Heap),YP w h->(K w.params).In h)
 (F:∀(w:World)(mg:Str->Ψ)(fa:Addr)(h:Heap),(K w.params).In h->h.Ns mainGlobals mg->mg d.name=some (.ref fa) ->
   ∃st,cQ (K w.params) mg d.name st [x]/\∀(base:Heap)(f:Addr)(fd:FuncData),Fun (K w.params) d.name d.name st f fd->dI l.prog w (K w.params) mg base CX0 k f fd [x] (V5 (K w.params))) :
  PySem.W.WalkO q loose XP YP l.row.toRowW d [] (λf vs=>PySem.call f vs):=by
 refine L2.WL (n:=63) (k:=k) (x:=x) (CX:=λ_=>CX0) (sp:=λw=>V5 (K w.params)) hn (by decide) kF hr hY (λw mg fa h KX G gL=>?_) (λ_ _ a ns hl hO hS=>⟨a,ns,rfl,hS,hl,hO,λ_=>rfl⟩) λ_ _ _ _ _ z=>z;obtain⟨st,⟨f,fd,hf,hb,hm⟩,ok⟩:=F w mg fa h KX G gL;rw[hm]at gL;have e:f=fa:=by injection gL with z;injection z
 subst e;exact⟨fd,λs u=>.of_eq (hb [u] rfl),λbase _ _=>ok base f fd hf⟩
section
variable{X:Cx}{p pos:Pos}{e:Expr}{es:List Expr}{t:TA}{x:Str}{k:Nat}{ps:Θ}{sp:Sp}
def Uh(sp:Sp)(t:TA):TE:=λσ H Q=>t σ H λvs H1=>sp vs H1 Q E0
def Cp(G:OkF X.prog X.w X.K X.mg X.base k x ps sp)(hr:dh k X.A)(hg:Gl X x)(ha:PA X (e::es) t)(bz:zk x:=by decide)
 (he:zb X e es:=by rfl)(aE:zg X pos es:=by rfl):PE X (.Call (.Name x p) (e::es) [] pos) (Uh sp t):=by
 obtain⟨f,fd,F,b,hm,kp⟩:=G;intro aa s σ H Q I h;refine aeg F hr hg hm kp b .nil Lf ha bz he aE aa s σ H Q I ?_;show t σ H λvs H1=>sp (vs++[]) H1 Q E0;simp only[List.append_nil];exact h
end
def afN(a:Int):(if a<0 then -a else a)=((a.natAbs:Nat):Int):=by split<;>omega
def rE(a:Int){b:Int}(h:0<b):Int.fdiv a b=a/b:=Zyw a (XY h)
def TrD(h base:Heap)(e:Addr)(cls:Value)(d:Ω)(fl:Value):Prop :=
 ∃oe vs T oT ts,h.get? e=some oe/\(oe.cls=cls/\oe.dict=d)/\oe.data=.fields vs/\vs[1]?=some (.ref T)/\base.get? T=none/\T≠e/\h.get? T=some oT/\oT.data=.fields ts/\ts[3]?=some fl
def uF(base:Heap)(l:List Env)(e:Addr)(cls:Value)(d:Ω)(fl:Value)(h:Heap):Prop :=
 base.StaysIn h/\base.get? e=none/\h.FunFrames base l/\TrD h base e cls d fl
def uF.first{base h:Heap}{l:List Env}{e:Addr}{cls fl:Value}{d:Ω}(x:uF base l e cls d fl h):∃oe vs,h.get? e=some oe/\oe.cls=cls/\oe.dict=d/\oe.data=.fields vs :=
 by obtain⟨_,_,_,oe,vs,_,_,_,he,hc,hd,_⟩:=x;exact⟨oe,vs,he,hc.1,hc.2,hd⟩
section
variable{M:Model}{A:Around}{E:Β}{s:Shared}{base:Heap}{env:Env}{outer l:List Env}{L e:Addr}{cls:Value}{d:Ω}{Q:Unit->Shared->Prop}
def Hy(o:Obj)(f:Array Value->Array Value):(Obj.mapFields f o).dict=o.dict:=by
 unfold Obj.mapFields;split<;>rfl
def aaD{oe:Obj}{vs:Array Value}{head:Value}{gm:Bool}(dA:A.frames=some (env::outer))(hl:s.heap.FunFrames base (env::outer))(hf:env.frame=some L)(he:s.heap.get? e=some oe)
 (fR:base.StaysIn s.heap)(fS:base.get? e=none)(hd:oe.data=.fields vs)(hsz:1<vs.size)(h:∀h',uF base (env::outer) e oe.cls oe.dict (rawInt L) h'->s.heap.UpToSlots h'->Q () { s with heap:=h' }) :
  wpAny M A (do let a <- frameOf env;let pl <- entryPlaceOf L gm;let b <- EntryCells.newEntry head a .none (rawInt L) .none pl;setField (.ref e) 1 b) Q E s:=by
 have nofr:e∉(env::outer).filterMap (·.frame):=λz=>by
  obtain⟨_,o,ho,hnf⟩:=hl.mem z;rw[he]at ho;cases ho;exact hnf vs hd
 refine ZU (wpAny_frameOf_fun dA hl hf λg hg=>ZU (wpAny_entryPlaceOf λpl aE=>?_));unfold EntryCells.newEntry newFields;refine ZU (wpAny_newObj_type ?_ (aE.sizeOk5 _ _ _ _ _));have eg:g.get? e=some oe:=(hg.2.1 e nofr).trans he;have kg:base.StaysIn g:=λb o q=>(hg.2.1 b λz=>by rw[(hl.mem z).1]at q;cases q).trans (fR b o q);generalize df:({ cls:=.type "traceback",dict:=none,data:=.fields ([head,.ref L,.none,rawInt L,.none]++(if pl.isEmpty then List.replicate 6 Value.none else pl)).toArray } : Obj)=ot;have ib:g.objs.size≠e:=VW (aK eg);have e2:(g.push ot).get? e=some oe:=aH _ eg;refine wpAny_setField e2 hd hsz (h _ ?_ ?_)
 all_goals
  have d3:=Obj.data_mapFields hd (·.setIfInBounds 1 (Value.ref g.objs.size));have e3:=Heap.get?_update_self (Obj.mapFields (·.setIfInBounds 1 (Value.ref g.objs.size))) e2 (Obj.isFreed_of_fields d3);have keep:∀b o,b≠e->g.get? b=some o->((g.push ot).update e (Obj.mapFields (·.setIfInBounds 1 (Value.ref g.objs.size)))).get? b=some o:=λb o nb q=>by
   rw[Heap.get?_update_other _ _ (Ne.symm nb)];exact aH _ q
  have nr:∀b o,s.heap.get? b=some o->(∀ws,o.data≠.fields ws)->b≠e:=λb o q nf z=>by
   rw[z,he]at q;cases q;exact nf vs hd
 .refine⟨λb o q=>keep b o (λz=>by rw[z,fS]at q;cases q) (kg b o q),fS,hl.of_keeps λb o q nf=>?_,?_⟩
  .obtain⟨sl,z⟩:=hg.2.2 b o q;exact⟨_,keep b _ (nr b o q nf) z,rfl⟩
  .refine⟨_,_,g.objs.size,ot,_,e3,⟨Obj.cls_mapFields _ _,Hy _ _⟩,d3,by simp[hsz],kg.fresh,ib,?_,by rw[<- df],?_⟩
   .rw[Heap.get?_update_other _ _ (Ne.symm ib)];exact aW g (by rw[<- df];rfl)
   .first|(simp;done)|(rcases aE with rfl|⟨_,_,_,_,_,_,_,rfl⟩<;>simp)
 .intro b o q nf;obtain⟨sl,z⟩:=hg.2.2 b o q;exact⟨sl,keep b _ (nr b o q nf) z⟩
def Uc{oe:Obj}{vs:Array Value}(dA:A.frames=some (env::outer))(hl:s.heap.FunFrames base (env::outer))(hf:env.frame=some L)(he:s.heap.get? e=some oe)
 (fR:base.StaysIn s.heap)(fS:base.get? e=none)(hd:oe.data=.fields vs)(h1:vs[1]?=some .none)(h:∀h',uF base (env::outer) e oe.cls oe.dict (rawInt L) h'->s.heap.UpToSlots h'->Q () { s with heap:=h' }) :
  wpAny M A (noteFrame (.ref e) env) Q E s:=by
 unfold noteFrame;simp only[hf];refine ZU (wpAny_field he hd h1 ?_);rw[ZZ (by decide)];exact aaD dA hl hf he fR fS hd (Array.getElem?_eq_some_iff.mp h1).1 h
def Kz(dA:A.frames=some (env::outer))(hf:env.frame=some L)(x:uF base (env::outer) e cls d .none s.heap)
 (h:∀h',uF base (env::outer) e cls d (rawInt L) h'->s.heap.UpToSlots h'->Q () { s with heap:=h' }):wpAny M A (noteFrame (.ref e) env) Q E s:=by
 obtain⟨fR,fS,hl,oe,vs,T,oT,ts,he,⟨hc,hdd⟩,hd,h1,nT,ib,hT,gV,h3⟩:=x;subst hc hdd;unfold noteFrame;simp only[hf];refine ZU (wpAny_field he hd h1 ?_);rw[ZY (show(Value.ref T != Value.none)=true from by simp)];refine ZU (wpAny_field hT gV h3 ?_);rw[ZZ (show ¬((Value.none==rawInt L)=true)from by simp[rawInt])];refine ZU (wpAny_setField hT gV (Array.getElem?_eq_some_iff.mp h3).1 ?_);have cc:∀b,b≠T->(s.heap.update T (Obj.mapFields (·.setIfInBounds 3 Value.none))).get? b=s.heap.get? b:=λb hb=>Heap.get?_update_other _ _ (Ne.symm hb);have nr:∀b o,s.heap.get? b=some o->(∀ws,o.data≠.fields ws)->b≠T:=λb o q nf z=>by
  rw[z,hT]at q;cases q;exact nf ts gV
 refine aaD (s:={ s with heap:=_ }) dA (hl.of_keeps λb o q nf=>⟨o,(cc b (nr b o q nf)).trans q,rfl⟩) hf ((cc e (Ne.symm ib)).trans he)
  (λb o q=>(cc b λz=>by rw[z,nT]at q;cases q).trans (fR b o q)) fS hd (Array.getElem?_eq_some_iff.mp h1).1 λh' y up=>h h' y λb o q nf=>up b o ((cc b (nr b o q nf)).trans q) nf
def V9{fl:Value}(x:uF base l e cls d fl s.heap)(h:∀h',uF base l e cls d .none h'->s.heap.UpToSlots h'->Q () { s with heap:=h' }):wpAny M A (setFlight (.ref e) none) Q E s:=by
 obtain⟨fR,fS,hl,oe,vs,T,oT,ts,he,hc,hd,h1,nT,ib,hT,gV,h3⟩:=x;have z3:3<ts.size:=(Array.getElem?_eq_some_iff.mp h3).1;have cc:∀b,b≠T->(s.heap.update T (Obj.mapFields (·.setIfInBounds 3 ((none:Ω).elim Value.none λf=>rawInt f)))).get? b=s.heap.get? b:=λb hb=>Heap.get?_update_other _ _ (Ne.symm hb);have nr:∀b o,s.heap.get? b=some o->(∀ws,o.data≠.fields ws)->b≠T:=λb o q nf z=>by
  rw[z,hT]at q;cases q;exact nf ts gV
 unfold setFlight;refine ZU (wpAny_field he hd h1 ?_);rw[ZY (show(Value.ref T != Value.none)=true from by simp)];refine wpAny_setField hT gV z3 (h _ ⟨λb o q=>(cc b λz=>by rw[z,nT]at q;cases q).trans (fR b o q),fS,hl.of_keeps λb o q nf=>⟨o,(cc b (nr b o q nf)).trans q,rfl⟩,?_⟩ λb o q nf=>⟨o.slots,(cc b (nr b o q nf)).trans q⟩);exact⟨oe,vs,T,_,_,(cc e (Ne.symm ib)).trans he,hc,hd,h1,nT,ib,Heap.get?_update_self _ hT (Obj.isFreed_of_fields (Obj.data_mapFields gV _)),Obj.data_mapFields gV _,by simp[z3]⟩
def uF.pop{fl:Value}{h:Heap}(x:uF base (env::outer) e cls d fl h):uF base outer e cls d fl h:=⟨x.1,x.2.1,x.2.2.1.2.2,x.2.2.2⟩
def YH(dA:A.frames=some (env::outer))(hf:env.frame=some L)(x:uF base (env::outer) e cls d .none s.heap)
 (h:∀h',uF base outer e cls d .none h'->s.heap.UpToSlots h'->Q () { s with heap:=h' }):wpAny M A (leaving env (.ref e)) Q E s:=by
 unfold leaving;exact ZU (Kz dA hf x λh1 y up=>V9 y λh2 z l7=>h h2 z.pop (up.trans l7))
def Xz{h0:Heap}{oe:Obj}{vs:Array Value}(dA:A.frames=some (env::outer))(hf:env.frame=some L)(fR:base.StaysIn h0)(hl:h0.FunFrames base (env::outer))(gx:∀b o,h0.get? b=some o->s.heap.get? b=some o)
 (new:h0.get? e=none)(he:s.heap.get? e=some oe)(hd:oe.data=.fields vs)(h1:vs[1]?=some .none)
 (h:∀h',uF base outer e oe.cls oe.dict .none h'->s.heap.UpToSlots h'->Q () { s with heap:=h' }):wpAny M A (leaving env (.ref e)) Q E s:=by
 have fS:base.get? e=none:=by
  cases q:base.get? e with
  |none=>rfl
  |some o=>have:=fR e o q;rw[new]at this;cases this
 unfold leaving;exact ZU (Uc dA (hl.of_keeps λb o q _=>⟨o,gx b o q,rfl⟩) hf he (λb o q=>gx b o (fR b o q)) fS hd h1 λh1 y up=>V9 y λh2 z l7=>h h2 z.pop (up.trans l7))
end
def eX.there{P:Program}{w:World}{H:Hp}{h:Heap}{a:Addr}{o:HO}(x:eX P w H h a o):∃ob,h.get? a=some ob:=by
 cases o with
 |lst xs=>obtain⟨_,_,_,_,e⟩:=x;exact⟨_,e⟩
 |tup xs=>obtain⟨_,_,_,o,e,_⟩:=x;exact⟨_,e⟩
 |dK kvs=>obtain⟨_,_,_,_,o,_,_,e,_⟩:=x;exact⟨_,e⟩
 |set S n=>obtain⟨o,_,_,_,e,_⟩:=x;exact⟨_,e⟩
 |ins C dx fs=>obtain⟨_,_,_,e,_⟩:=x;exact⟨_,e⟩
 |own y=>exact x
 |xd fs=>obtain⟨_,⟨_,_,_,e,_⟩,_⟩:=x;exact⟨_,e⟩
 |rng lo hi=>obtain⟨_,_,_,e⟩:=x;exact⟨_,e⟩
 |frz ob u=>obtain⟨e,_⟩:=x;exact⟨_,e⟩
 |tbl ps=>exact⟨_,(show h.get? a=some _ from x)⟩
 |met f y=>exact⟨_,(show h.get? a=some _ from x)⟩
 |ext φ=>obtain⟨_,e,_⟩:=x;exact e
structure Fly(P:Program)(w:World)(l:List Env)(H:Hp)(s:Shared)(a:Addr)(C:Value)(H':Hp)(s':Shared)(B:Heap)(d:Ω):Prop where
 os:s'.os=s.os
 bare:AllBare s'.gens
 new:s.heap.get? a=none
 un:Un (frs l) [] H H' s.heap s'.heap
 hok:HOk P w H' s'.heap
 frf:∀b∈frs l,H' b=none
 fl:uF B l a C d .none s'.heap
 cov:∀b o,s'.heap.get? b=some o->b∉frs l->((∃u,s.heap.get? b=some u)\/∃u,H' b=some u)->B.get? b=some o
section
variable{P:Program}{w:World}{l:List Env}{H H':Hp}{s s':Shared}{a:Addr}{C:Value}{B:Heap}{d:Ω}{h':Heap}
def Fly.trk(F:Fly P w l H s a C H' s' B d){b:Addr}{u:HO}{o:Obj}(e:H' b=some u)(q:s'.heap.get? b=some o):B.get? b=some o :=
 F.cov b o q (λz=>by rw[F.frf b z]at e;cases e) (.inr ⟨u,e⟩)
def Fly.hok'(F:Fly P w l H s a C H' s' B d)(k:∀b o,B.get? b=some o->h'.get? b=some o):HOk P w H' h':=λb u e =>
 (F.hok b u e).stay (λc v hc q=>k c v (by
  rcases hc with z|z
  .subst z;exact F.trk e q
  .exact F.trk z q)) (λ_ q=>q) λ_ _ q=>q
def Fly.un'(F:Fly P w l H s a C H' s' B d)(k:∀b o,B.get? b=some o->h'.get? b=some o)(up:s'.heap.UpToSlots h'):Un (frs l) [] H H' s.heap h':=by
 have nf:∀b∈frs l,∀o,s'.heap.get? b=some o->∀vs,o.data≠.fields vs:=λb hb o e=>by
  obtain⟨_,o',e',d⟩:=F.fl.2.2.1.mem hb;rw[e]at e';cases e';exact d
 refine⟨λb o q n hb hx=>k b o (F.cov b o (F.un.keep b o q n hb hx) hb (.inl ⟨o,q⟩)),λb o q n hb hx=>?_,F.un.free,λb o q hx=>?_,F.un.tups,F.un.frzs,F.un.tbls⟩
 .obtain⟨sl,e⟩:=F.un.slot b o q n hb hx;obtain⟨jI,e'⟩:=up b _ e (nf b hb _ e);exact⟨jI,e'⟩
 .obtain⟨o',e⟩:=F.un.there b o q hx;by_cases hb:b∈frs l
  .obtain⟨jI,e'⟩:=up b _ e (nf b hb _ e);exact⟨_,e'⟩
  .exact⟨o',k b o' (F.cov b o' e hb (.inl ⟨o,q⟩))⟩
end
section
variable{X:Cx}{aa:Γ}{σ:List (Option V)}{H H':Hp}{s s':Shared}{a:Addr}{C:Value}{B:Heap}{d:Ω}{h':Heap}
def Inv.flown(I:Inv X aa σ H s)(F:Fly X.prog X.w X.stack H s a C H' s' B d)(k:∀b o,B.get? b=some o->h'.get? b=some o)(up:s'.heap.UpToSlots h'):Inv X aa σ H' { s' with heap:=h' } :=
 I.call' (s':={ s' with heap:=h' }) (ch:=[]) F.os (F.un' k up) (F.hok' k) F.bare λ_ z=>nomatch z
def Inv.old(I:Inv X aa σ H s)(hx:X.ex=[]){b:Addr}{o:Obj}(e:X.s₀.heap.get? b=some o):(∃u,s.heap.get? b=some u)/\b≠X.env.locals:=by
 obtain⟨u,q⟩:=I.base.there b o e (by rw[hx];simp);exact⟨⟨u,q⟩,aQ (aR (aK e) I.ok.above)⟩
def Inv.nostk(I:Inv X aa σ H s){b:Addr}(h1:b≠X.env.locals)(h2:b∉X.fs):b∉frs X.stack:=λz=>by
 rcases YU.mp (I.stkSub b z)with e|e
 .exact h1 e
 .exact h2 e
def Inv.flyOut(I:Inv X aa σ H s)(hx:X.ex=[])(F:Fly X.prog X.w X.stack H s a C H' s' B d)(fl:uF B X.outer a C d .none h')(up:s'.heap.UpToSlots h') :
  Fly X.prog X.w X.outer X.H₀ X.s₀ a C H' { s' with heap:=h' } B d:=by
 have J:=I.flown F fl.1 up;refine⟨J.os,J.bare,?_,by have:=J.base;rw[hx]at this;exact this,J.hok,λb hb=>?_,fl,λb o e hb hc=>?_⟩
 .cases q:X.s₀.heap.get? a with
  |none=>rfl
  |some o =>
   obtain⟨⟨u,z⟩,_⟩:=I.old hx q;rw[F.new]at z;cases z
 .obtain⟨_,o,ho,_⟩:=I.ok.funs.mem hb;exact J.base.free b o ho (I.ok.frf b hb) λz=>I.ok.exfs b z hb
 .rcases hc with⟨u,q⟩|⟨u,q⟩
  .obtain⟨⟨v,z⟩,n⟩:=I.old hx q;obtain⟨o',e'⟩:=F.un.there b v z (by simp);have y:=F.cov b o' e' (I.nostk n hb) (.inl ⟨v,z⟩);have e2:=fl.1 b o' y;rw[show({ s' with heap:=h' } : Shared).heap.get? b=h'.get? b from rfl,e2]at e;cases e;exact y
  .obtain⟨o',e'⟩:=(F.hok b u q).there;have y:=F.trk q e';have e2:=fl.1 b o' y;rw[show({ s' with heap:=h' } : Shared).heap.get? b=h'.get? b from rfl,e2]at e;cases e;exact y
end
def CXO(P:Program)(w:World):CXT:=λl H s E e s'=>∃a C d H' B,e=.ref a/\Fly P w l H s a C H' s' B d/\E C d H'
def Yu(X:Cx)(Ex:Value->Ω->L2.St->Hp->Prop):Prop :=
 ∀aa σ H s a C H' s' B d,Inv X aa σ H s->Fly X.prog X.w X.stack H s a C H' s' B d->Ex C d σ H'->X.xe (.ref a) s'
section
variable{P:Program}{w:World}{K:Frag}{mg:Str->Ψ}{base:Heap}{N:Θ}{ah:Str}{scope:Scope}{f:Addr}{cd:Value}{A:Around}{outer:List Env}{s:Shared}{H:Hp}{E:XK}
def ab6:Yu (zX (CXO P w) P w K mg base N ah scope f cd A outer s H E) (λC d _ H'=>E C d H'):=by
 intro aa σ H1 s1 a C H' s' B d I F q;show wpAny _ _ (leaving _ (.ref a)) _ _ _;refine YH (outer:=outer) I.ok.frames rfl F.fl λh' fl up=>?_;exact⟨a,C,d,H',B,rfl,I.flyOut rfl F fl up,q⟩
end
section
variable{P:Program}{w:World}{K:Frag}{mg:Str->Ψ}{base:Heap}
def Fun.okX{x ah:Str}{st:Stmt}{f:Addr}{fd:FuncData}{N ps:Θ}{k:Nat}{sp:Sp}(F:Fun K x ah st f fd)(S:bK N ps (bF st))(len:∀vs H Q E,sp vs H Q E->vs.length=ps.length)
 (be:∀(ai:Value)(A:Around)(outer:List Env)(s:Shared)(H:Hp)(vs:Ε)(Q:VK)(E:XK),dh k (A.deeper (envOfC ah (bF st) s.heap.objs.size f ai))->sp vs H Q E ->
   ∃t,PSs (zX (CXO P w) P w K mg base N ah (bF st) f ai A outer s H E) (eU st) t/\t { nx:=λ_ H'=>Q .non H',rt:=Q } (L2.start N vs) H):dI P w K mg base (CXO P w) (k+1) f fd ps sp:=by
 obtain⟨oc,od,kV,bS,pm,an,ai,ct,dt,rfl,lk,a8⟩:=F.ex;exact aeB lk a8 S len λA outer s H vs Q E hr eW=>be ai A outer s H vs Q E hr eW
def OkX(P:Program)(w:World)(K:Frag)(mg:Str->Ψ)(base:Heap)(k:Nat)(x:Str)(ps:Θ)(sp:Sp):Prop :=
 ∃f fd,dI P w K mg base (CXO P w) k f fd ps sp/\Binds K fd ps []/\mg x=some (.ref f)/\keepIn K (.ref f)=true
def cQ.okX{k:Nat}{x:Str}{st:Stmt}{ps:Θ}{sp:Sp}(h:cQ K mg x st ps)
 (hf:∀f fd,Fun K x x st f fd->dI P w K mg base (CXO P w) k f fd ps sp):OkX P w K mg base k x ps sp:=by
 obtain⟨f,fd,a,b,c⟩:=h;exact⟨f,fd,hf f fd a,.all b,c,a.kp⟩
end
section
variable{X:Cx}{p pos:Pos}{e:Expr}{es:List Expr}{t:TA}{x:Str}{k:Nat}{ps:Θ}{sp:Sp}{Ex:Value->Ω->L2.St->Hp->Prop}
def agk(sp:Sp)(Ex:Value->Ω->L2.St->Hp->Prop)(t:TA):TE:=λσ H Q=>t σ H λvs H1=>sp vs H1 Q λC d H'=>Ex C d σ H'
def Sq(G:OkX X.prog X.w X.K X.mg X.base k x ps sp)(hr:dh k X.A)(hg:Gl X x)(hx:Yu X Ex)(ha:PA X (e::es) t)(bz:zk x:=by decide)
 (he:zb X e es:=by rfl)(aE:zg X pos es:=by rfl):PE X (.Call (.Name x p) (e::es) [] pos) (agk sp Ex t):=by
 obtain⟨f,fd,F,hb,hm,kp⟩:=G;intro aa s σ H Q I h;refine wpAny_Call_Name_kw (ou I hg hm ?_ bz);refine callWith_K (h₀:=X.base) I.ok.mod.kin kp (thn (ha pos aa s σ H _ I h) λus s1 ⟨vs,H1,I1,r,q⟩=>⟨I1.kIn,?_⟩) he aE;have hl:us.length=ps.length:=by rw[<- r.length];exact F.len _ _ _ _ q
 have cx:=hb s1 us I1.kIn (by simpa using hl);simp only[List.append_nil]at cx;refine wpAny_call (codeAny_mono (F.run X.A X.stack s1 H1 ⟨us,[]⟩ us vs Q _ hr I1.env0 cx r q) λr s' hq=>?_);cases r with
 |error e =>
  obtain⟨a,C,d,H',B,rfl,Fl,q'⟩:=hq;exact hx aa σ H1 s1 a C H' s' B d I1 Fl q'
 |ok fl =>
  cases fl with
  |ret u=>exact I1.after hq
  |next=>exact False.elim hq
  |brk=>exact False.elim hq
  |cont=>exact False.elim hq
end
abbrev bmV:Δ:=[.type "ValueError",.type "Exception",.type "BaseException",.type "object"]
def aft(K:Frag)(C:Addr):Prop:=excIn K C bmV "ValueError.__new__"=true
def adf{K:Frag}{h:Heap}{C:Addr}(X:K.In h)(q:aft K C):∃bm N nm qn bs gh sn sub ab col dd k0 k1 k2 k3 k5 mN,h.get? C=some (excClassObj nm qn C N bs bm gh sn sub ab col dd k0 k1 k2 k3 k5 "ValueError.__new__") /\
  h.Ns N mN/\mN "__init__"=none/\OwnTail h bmV bm:=by
 unfold aft excIn at q;split at q
 .rename_i dd cd sl ho
  split at q
  .rename_i C' bm k0 k1 k2 k3 n k5 hm hs
   simp only[JY,beq_iff_eq,Bool.not_eq_true']at q;obtain⟨⟨⟨⟨⟨rfl,rfl⟩,kG⟩,ht⟩,hok⟩,hni⟩:=q;obtain⟨nm,bs,mro,ns,qn,hd,sn,sub,ab,col,del⟩:=cd;dsimp only at hm kG hok hni;subst hm kG;have hsl:sl = #[k0,k1,k2,k3,some (.builtin "ValueError.__new__"),k5]:=by
    obtain⟨l⟩:=sl;simp only at hs;rw[hs]
   subst hsl;exact⟨bm,ns,nm,qn,bs,hd,sn,sub,ab,col,dd,k0,k1,k2,k3,k5,_,X _ _ ho,.of_isNs (isNs_of_in X hok),PySem.W.nsMap_none_of_in X hok hni,PySem.W.tail_of_in X ht⟩
  .cases q
 .cases q
abbrev Cx.tryc(X:Cx)(pn:Γ)(E:Β):Cx:={ X with pn:=pn,xe:=E }
abbrev Cx.marked(X:Cx)(a:Addr)(E:Β):Cx:={ X with A:=X.A.mark (some (.ref a)),calm:=false,xe:=E }
section
variable{X:Cx}{aa dq pn:Γ}{σ:L2.St}{H H':Hp}{s:Shared}{E:Β}{a:Addr}
def Cx.Ok.tryc(ok:X.Ok):(X.tryc pn E).Ok:=⟨ok.mod,ok.kind,ok.glob,ok.blt,ok.above,ok.inj,ok.has,ok.cab,ok.hd,ok.frames,ok.stk,ok.exf,ok.bs,ok.bsz,ok.noex,ok.exfs,ok.funs,ok.frf⟩
def Cx.Ok.untry(ok:(X.tryc pn E).Ok):X.Ok:=⟨ok.mod,ok.kind,ok.glob,ok.blt,ok.above,ok.inj,ok.has,ok.cab,ok.hd,ok.frames,ok.stk,ok.exf,ok.bs,ok.bsz,ok.noex,ok.exfs,ok.funs,ok.frf⟩
def Inv.tryc(I:Inv X aa σ H s):Inv (X.tryc (X.pn++aa) E) [] σ H s:=⟨I.ok.tryc,I.os,I.bare,I.base,I.loc,I.cell,I.free,I.freeC,λp hp=>I.pin p (by simpa using hp),I.hok,I.len⟩
def Inv.untry(I:Inv (X.tryc (X.pn++aa) E) dq σ H s):Inv X aa σ H s:=⟨I.ok.untry,I.os,I.bare,I.base,I.loc,I.cell,I.free,I.freeC,λp hp=>I.pin p (TR _ hp),I.hok,I.len⟩
def Cx.Ok.marked(ok:X.Ok):(X.marked a E).Ok:=⟨ok.mod,ok.kind,ok.glob,ok.blt,ok.above,ok.inj,ok.has,ok.cab,λz=>(nomatch z),ok.frames,ok.stk,ok.exf,ok.bs,ok.bsz,ok.noex,ok.exfs,ok.funs,ok.frf⟩
def Inv.marked(I:Inv X aa σ H s):Inv (X.marked a E) aa σ H s:=⟨I.ok.marked,I.os,I.bare,I.base,I.loc,I.cell,I.free,I.freeC,I.pin,I.hok,I.len⟩
def Inv.unmarked(ok:X.Ok)(I:Inv (X.marked a E) aa σ H s):Inv X aa σ H s:=⟨ok,I.os,I.bare,I.base,I.loc,I.cell,I.free,I.freeC,I.pin,I.hok,I.len⟩
def Inv.track{o:HO}(I:Inv X aa σ H s)(hn:H a=none)(ha:X.s₀.heap.get? a=none)(hL:a≠X.env.locals)(hC:∀x c,X.env.cells.lookup x=some c->c≠a)(hp:∀p∈X.pn++aa,p.1≠a)
 (ok:eX X.prog X.w (upd H a o) s.heap a o):Inv X aa σ (upd H a o) s:=by
 have ne:∀b u,H b=some u->b≠a:=λb u e=>kE e hn;have ne0:∀b u,X.s₀.heap.get? b=some u->b≠a:=λb u e z=>by rw[z,ha]at e;cases e
 refine⟨I.ok,I.os,I.bare,⟨I.base.keep,I.base.slot,λb ob e n hx=>by rw[bO (ne0 b ob e)];exact I.base.free b ob e n hx,I.base.there,λb xs e=>?_,λb ob u e=>?_,λb ps e=>?_⟩,I.loc,I.cell,by rw[bO hL.symm];exact I.free,λx c e=>by rw[bO (hC x c e)];exact I.freeC x c e,λp q=>?_,λb u e=>?_,I.len⟩
 .have z:=I.base.tups b xs e;rw[bO (ne b _ z)];exact z
 .have z:=I.base.frzs b ob u e;rw[bO (ne b _ z)];exact z
 .obtain⟨m,z⟩:=I.base.tbls b ps e;exact⟨m,by rw[bO (ne b _ z)];exact z⟩
 .obtain⟨h1,h2,h3⟩:=I.pin p q;exact⟨h1,by rw[bO (hp p q)];exact h2,h3⟩
 .by_cases z:b=a
  .subst z;rw[bY]at e;cases e;exact ok
  .rw[bO z]at e;exact(I.hok b u e).stay (λ_ _ _ q=>q) (λc q=>by rw[bO (ne c _ q)];exact q) λc xs q=>by rw[bO (ne c _ q)];exact q
def Inv.unname{M:Model}{A:Around}{E:Β}{i:Nat}{n:Str}{pos:Pos}{Q:Unit->Shared->Prop}(I:Inv X aa σ H s)(hN:X.N.Nodup)(hi:X.N[i]?=some n)(hk:X.env.scope.names.lookup n=some .local)
 (h:∀s',Inv X aa (σ.set i none) H s'->Q () s'):wpAny M A (do bindName X.env n .none;unbindBehindTheSuite X.env n pos) Q E s:=by
 obtain⟨m,hn,hl⟩:=id I.loc;have dL:(X.env.scope.kind == .class || (X.env.scope.kind == .module&&X.env.locals != X.env.globals))=false:=by rw[I.ok.kind];rfl
 have cne:=I.cne;have lh:i<σ.length:=by rw[I.len];exact(ao.mp hi).1
 refine wpAny_nameGoes_keeps hk hn dL λh' v oj hs=>?_;have hok:HOk X.prog X.w H h':=λb ob e=>(I.hok b ob e).stay (λc w' hc q=>(hs.2 c (by
  rintro rfl;rcases hc with rfl|hc
  .rw[I.free]at e;cases e
  .rw[I.free]at hc;cases hc)).trans q) (λ_ q=>q) λ_ _ q=>q
 refine h _ ⟨I.ok,I.os,I.bare,⟨λb o e n' hb hx=>?_,λb o e n' hb hx=>?_,I.base.free,λb o e hx=>?_,I.base.tups,I.base.frzs,I.base.tbls⟩,⟨_,oj,λj y v' e1 e2 e3=>?_⟩,λy c e=>?_,I.free,I.freeC,λp hp=>?_,hok,by simpa using I.len⟩
 .exact(hs.2 b (aQ (aR (aK e) I.ok.above))).trans (I.base.keep b o e n' hb hx)
 .obtain⟨sl,e1⟩:=I.base.slot b o e n' hb hx;exact⟨sl,(hs.2 b (aQ (aR (aK e) I.ok.above))).trans e1⟩
 .obtain⟨o',e1⟩:=I.base.there b o e hx;exact⟨o',(hs.2 b (aQ (aR (aK e) I.ok.above))).trans e1⟩
 .by_cases hj:j=i
  .subst hj;rw[VT lh]at e2;cases e2
  .rw[VY (Ne.symm hj)]at e2;obtain⟨u',r',q⟩:=hl j y v' e1 e2 e3;refine⟨u',r',?_⟩;rcases q with⟨k,e⟩|⟨k,c,e,z⟩
   .refine .inl ⟨k,?_⟩;have:y≠n:=λe=>hj (Ij hN e1 (e ▸ hi));simp[this,e]
   .exact .inr ⟨k,c,e,z.sameBut hs (cne y c e)⟩
 .obtain⟨w',z⟩:=I.cell y c e;exact⟨w',z.sameBut hs (cne y c e)⟩
 .obtain⟨e,n',ne,nf,d⟩:=I.pin p hp;exact⟨(hs.2 p.1 ne).trans e,n',ne,nf,d⟩
end
def XO(a C:Addr)(d:Ω):HO:=.ext λh=>∃o,h.get? a=some o/\o.cls=.ref C/\o.dict=d/\∃vs,o.data=.fields vs
def uY{M:Model}{A:Around}{E:Β}{K:Frag}{h:Heap}{g:Array GenState}{d:Drawn}{t:Nat}{os:OsState}{a C D:Addr}{oe:Obj}{Q:Bool->Shared->Prop}{b:Bool}(X:K.In h)
 (qD:mroIn K D (.type "BaseException")=some true)(kP:typeIn K (.ref D)=some (.type "type"))(he:h.get? a=some oe)(hc:oe.cls=.ref C)(qS:mroIn K C (.ref D)=some b)
 (hq:Q b ⟨h,g,d,t,os⟩):wpAny M A (excMatches (.ref a) (.ref D)) Q E ⟨h,g,d,t,os⟩:=by
 have l1:PySem.W.Looks M h (isInstance (.ref D) (.type "tuple")) false:=(PySem.W.looks_typeIn X kP).andThen (PySem.W.Looks.of_pure tc_notTuple);have l2:PySem.W.Looks M h (isType (.ref D)) true:=by
  obtain⟨cdD,iL,_⟩:=Option.bind_eq_some_iff.mp qD;unfold clsIn at iL;split at iL
  .rename_i c' d' cd' jI ho
   intro A' Q' E' s' k q;unfold isType loadHead;exact ZU (wpAny_loadPart (k _ _ (X _ _ ho)) (ZT q))
  .cases iL
 have l3:PySem.W.Looks M h (isSubtype (.ref D) (.type "BaseException")) true:=looks_mroIn X qD;have l4:PySem.W.Looks M h (isSubtype (.ref C) (.ref D)) b:=looks_mroIn X qS;have l5:PySem.W.Looks M h (typeOf (.ref a)) (.ref C):=by
  intro A' Q' E' s' k q;rw[<- hc]at q;unfold typeOf;exact ZU (wpAny_loadPart (k _ _ he) (ZT q))
 unfold excMatches;refine ZU (l1.at ?_);simp only[XW,if_false];refine ZU (ZT ?_);simp only[List.forIn_cons,List.forIn_nil];unfold isExcClass;refine ZU (ZU (ZU (ZU (l2.at ?_))));simp only[if_true];refine l3.at ?_;simp only[Bool.not_true,XW,if_false];refine ZT (ZT (ZU (l5.at ?_)));refine ZU (ZU (ZU (l4.at ?_)));cases b with
 |true =>
  simp only[if_true];exact ZT (ZT (ZT hq))
 |false =>
  simp only[XW,if_false];exact ZT (ZT (ZT hq))
section
variable{X:Cx}{pos ky np:Pos}{bP ff:List Stmt}{b₀:Stmt}{n Dn:Str}{D:Addr}{i:Nat}{tb:(Value->Ω->L2.St->Hp->Prop)->TS}{th:TS}
def Ends.unset(R:Ends)(i:Nat):Ends:={ nx:=λσ H=>R.nx (σ.set i none) H,rt:=R.rt,bk:=λσ H=>R.bk (σ.set i none) H,ct:=λσ H=>R.ct (σ.set i none) H }
end
structure S9(K:Frag)(C:Addr):Prop where
 ga:findIn K (.ref C) "__getattribute__"=some (some (.builtin "BaseException.__getattribute__"))
 gn:findIn K (.ref C) "__getattr__"=some none
 cl:findIn K (.ref C) "__class__"=some (some (.builtin "object.__class__"))
 mo:mroIn K C (.type "object")=some true
 mb:mroIn K C (.type "BaseException")=some true
section
variable{prog:Program}{w:World}{A:Around}{E:Β}{h:Heap}{g:Array GenState}{d:Drawn}{t:Nat}{os:OsState}{a C:Addr}{o:Obj}{K:Frag}
def Aw{M:Model}(hx:h.get? a=some o)(hc:o.cls=.ref C):PySem.W.Looks M h (typeOf (.ref a)) (.ref C):=by
 intro A' Q' E' s' k q;rw[<- hc]at q;unfold typeOf;exact ZU (wpAny_loadPart (k _ _ hx) (ZT q))
def MK{M:Model}{gu:Value}{Q:Unit->Shared->Prop}(X:K.In h)(T:S9 K C)(hx:h.get? a=some o)(hc:o.cls=.ref C)(hq:Q () ⟨h,g,d,t,os⟩) :
  wpAny M A (checkBuiltinCall "BaseException.__getattribute__" ⟨[.ref a,gu],[]⟩) Q E ⟨h,g,d,t,os⟩:=by
 have hk:builtinKind "BaseException.__getattribute__"=some .slot:=by decide +kernel
 have ik:splitId "BaseException.__getattribute__"=some ("BaseException","__getattribute__"):=by decide +kernel
 have ha:=F.args_bexc_ga (.ref a) gu;have LT:=Aw (M:=M) hx hc;have LB:=looks_mroIn (M:=M) X T.mb;simp only[checkBuiltinCall,hk,ik];refine ZU ?_;unfold isInstance
 repeat (first|with_reducible refine LT.at ?_|with_reducible refine LB.at ?_|(with_reducible refine wpAny_loadPart_at hx ?_;rw[hc])|wp_step)
 exact hq
end
def uG(cells:List (Str×Addr)):List (Str×NameKind)->List (Str×Addr)->List (Str×Addr)
 |[],acc=>acc
 |(n,k)::r,acc=>uG cells r (if k == .free then(n,(cells.lookup n).getD 0)::acc else acc)
def Uv{scope:Scope}{env:Env}(h:∀y∈scope.names,y.2=.free->∃c,env.cells.lookup y.1=some c):closureFor scope env=pure (uG env.cells scope.names []):=by
 unfold closureFor;have go:∀(l:List (Str×NameKind))(acc:List (Str×Addr)),(∀y∈l,y.2=.free->∃c,env.cells.lookup y.1=some c) ->
   (forIn l acc (λ(x:Str×NameKind)(r:List (Str×Addr))=>if(x.2==NameKind.free)=true then(do let a <- cellOf env x.1;pure (ForInStep.yield ((x.1,a)::r)))else pure (ForInStep.yield r)):Sem (List (Str×Addr)))=pure (uG env.cells l acc):=by
  intro l
  induction l with
  |nil=>intro acc _;rfl
  |cons y r ih =>
   intro acc hy;obtain⟨n,k⟩:=y;rw[List.forIn_cons];by_cases hk:k=.free
   .subst hk;obtain⟨c,hc⟩:=hy (n,.free) aO rfl;have e1:cellOf env n=pure c:=by unfold cellOf;rw[show env.cells.lookup n=some c from hc]
    simp only[beq_self_eq_true,if_true,e1,pure_bind];rw[ih _ λz hz=>hy z (aJ _ hz)];show pure _=pure (uG env.cells r (if(NameKind.free==NameKind.free)=true then(n,(env.cells.lookup n).getD 0)::acc else acc));rw[show env.cells.lookup n=some c from hc]
    rfl
   .have hb:(k==NameKind.free)=false:=by simpa using hk
    simp only[hb,XW,if_false,pure_bind];rw[ih _ λz hz=>hy z (aJ _ hz)];show pure _=pure (uG env.cells r (if(k==NameKind.free)=true then(n,(env.cells.lookup n).getD 0)::acc else acc));rw[hb]
    rfl
 have e:=go scope.names [] h;show(forIn scope.names [] (λ(x:Str×NameKind)(r:List (Str×Addr))=>if(x.2==NameKind.free)=true then(do let a <- cellOf env x.1;pure (ForInStep.yield ((x.1,a)::r)))else pure (ForInStep.yield r)):Sem (List (Str×Addr))) >>= (λcs=>pure cs)=_;rw[e]
 rfl
theorem Ro{cells:List (Str×Addr)} : ∀{names:List (Str×NameKind)}{acc:List (Str×Addr)}{x:Str}{c:Addr},(∀y∈names,y.2=.free->∃c,cells.lookup y.1=some c)->(x,c)∈uG cells names acc->(x,c)∈acc\/cells.lookup x=some c
 |[],_,_,_,_,h=>.inl h
 |(n,k)::r,acc,x,c,hf,h=>by
  unfold uG at h;rcases Ro (λy hy=>hf y (aJ _ hy)) h with z|z
  .by_cases hk:k=.free
   .subst hk;simp only[beq_self_eq_true,if_true]at z;rcases YU.mp z with e|e
    .obtain⟨c',cm⟩:=hf (n,.free) aO rfl;cases e;rw[show cells.lookup n=some c' from cm];exact .inr rfl
    .exact .inl e
   .have hb:(k==NameKind.free)=false:=by simpa using hk
    simp only[hb,XW,if_false]at z;exact .inl z
  .exact .inr z
theorem Rg{cells:List (Str×Addr)} : ∀{names:List (Str×NameKind)}{acc:List (Str×Addr)}{x:Str},((x,NameKind.free)∈names\/∃c,(x,c)∈acc)->∃c,(x,c)∈uG cells names acc
 |[],_,_,h=>by
  rcases h with h|h
  .cases h
  .exact h
 |(n,k)::r,acc,x,h=>by
  unfold uG;refine Rg ?_;rcases h with h|⟨c,h⟩
  .rcases YU.mp h with e|e
   .cases e;exact .inr ⟨_,by simp only[beq_self_eq_true,if_true];exact aO⟩
   .exact .inl e
  .refine .inr ⟨c,?_⟩;split
   .exact aJ _ h
   .exact h
theorem oX{α:Type}{x:Str}{c:α} : ∀{l:List (Str×α)},(x,c)∈l->∃c',l.lookup x=some c'
 |(y,d)::r,h=>by
  rw[List.lookup_cons];cases hb:x==y with
  |true=>exact⟨d,rfl⟩
  |false =>
   rcases YU.mp h with e|e
   .cases e;simp at hb
   .exact oX e
section
variable{X:Cx}{bg iter:Expr}{x:Str}{px pos:Pos}{scope:Scope}{wi:TI}{te:TE}
def Inv.nostk'{aa:Γ}{σ:L2.St}{H:Hp}{s:Shared}(I:Inv X aa σ H s){b:Addr}(h1:b≠X.env.locals)(h2:b∉X.fs):b∉frs X.stack:=λz=>by
 rcases YU.mp (I.stkSub b z)with e|e
 .exact h1 e
 .exact h2 e
theorem Ae{env:Env} : ∀{names:List (Str×NameKind)}{y:Str},(names.map λ(n,k)=>if(k==NameKind.free&&env.scope.kind == .function&&env.kindOf n==some .cell)then(n,NameKind.cell)else(n,k)).lookup y=some .cell \/
  (names.map λ(n,k)=>if(k==NameKind.free&&env.scope.kind == .function&&env.kindOf n==some .cell)then(n,NameKind.cell)else(n,k)).lookup y=some .free->(∀z∈names,z.2≠.cell)->(y,NameKind.free)∈names
 |[],y,h,_=>by rcases h with h|h<;>cases h
 |(n,k)::r,y,h,hc=>by
  have ih:=@Ae env r y;simp only[List.map_cons]at h;by_cases hcond:(k==NameKind.free&&env.scope.kind == .function&&env.kindOf n==some .cell)=true
  .rw[ZY hcond]at h;simp only[List.lookup_cons]at h;cases hb:y==n with
   |true =>
    have hk:k=.free:=by
     simp only[JY,beq_iff_eq]at hcond;exact hcond.1.1
    have:y=n:=by simpa using hb
    subst this hk;exact aO
   |false =>
    rw[hb]at h;exact aJ _ (ih h λz hz=>hc z (aJ _ hz))
  .rw[ZZ hcond]at h;simp only[List.lookup_cons]at h;cases hb:y==n with
   |true =>
    rw[hb]at h;have:y=n:=by simpa using hb
    subst this;rcases h with h|h
    .exact absurd (Option.some.inj h) (hc (y,k) aO)
    .have:k=.free:=Option.some.inj h;subst this;exact aO
   |false =>
    rw[hb]at h;exact aJ _ (ih h λz hz=>hc z (aJ _ hz))
end
section
variable{X:Cx}
def eqF:Ε->Ε->Bool
 |[],[]=>true
 |x::xs,y::ys=>eqV x y&&eqF xs ys
 |_,_=>false
def Inv.tupIs{aa:Γ}{σ:L2.St}{H:Hp}{s:Shared}{a:Addr}{xs:Ε}(I:Inv X aa σ H s)(h:H a=some (.tup xs)):∃its,Vals xs its/\IsTup s.heap a its.toArray/\s.heap.IsTuple a its.toArray:=by
 obtain⟨its,rv,ht,_⟩:=I.tuple (SqT.of h);exact⟨its,rv,ht,ht⟩
def Inv.lstIs{aa:Γ}{σ:L2.St}{H:Hp}{s:Shared}{a:Addr}{xs:Ε}(I:Inv X aa σ H s)(h:H a=some (.lst xs)):∃its,Vals xs its/\s.heap.IsList a its.toArray:=by
 obtain⟨its,rv,ht,_⟩:=I.list (SqL.of h);exact⟨its,rv,ht.isList⟩
end
open PySem.SeqAt in
section
variable{X:Cx}
structure PSB(X:Cx)(st:Stmt)(t:TS):Prop where
 out:PS X st t
structure adq(X:Cx)(b:List Stmt)(t:TS):Prop where
 out:PSs X b t
def K5{st:Stmt}{rest:List Stmt}{t u:TS}(h1:PSB X st t)(h2:adq X rest u):adq X (st::rest) (Xi t u):=⟨wN h1.out h2.out⟩
end
section
variable{P:Program}{w:World}{K:Frag}{mg:Str->Ψ}{base:Heap}
def Fun.okB{x ah:Str}{st:Stmt}{f:Addr}{fd:FuncData}{N ps:Θ}{k:Nat}{sp:Sp}(F:Fun K x ah st f fd)(S:bK N ps (bF st))(len:∀vs H Q E,sp vs H Q E->vs.length=ps.length)
 (be:∀(ai:Value)(A:Around)(outer:List Env)(s:Shared)(H:Hp)(vs:Ε)(Q:VK)(E:XK),dh k (A.deeper (envOfC ah (bF st) s.heap.objs.size f ai))->sp vs H Q E ->
   ∃t,adq (zX CX0 P w K mg base N ah (bF st) f ai A outer s H E).nox (eU st) t/\t { nx:=λ_ H'=>Q .non H',rt:=Q } (L2.start N vs) H):dI P w K mg base CX0 (k+1) f fd ps sp :=
 F.ok S len λai A outer s H vs Q E hr eW=>let⟨t,h1,h2⟩:=be ai A outer s H vs Q E hr eW;⟨t,h1.out,h2⟩
end
mutual
inductive Shows(H:Hp):V->PyData->Prop
 |non:Shows H .non .none
 |bl (b:Bool):Shows H (.bl b) (.bool b)
 |int (i:Int):Shows H (.int i) (.int i)
 |str (x:Str):Shows H (.str x) (.str x)
 |lst {a:Addr}{xs:Ε}{ds:List PyData} : H a=some (.lst xs)->fL H xs ds->Shows H (.ref a) (.list ds)
 |tup {a:Addr}{xs:Ε}{ds:List PyData} : H a=some (.tup xs)->fL H xs ds->Shows H (.ref a) (.tuple ds)
inductive fL(H:Hp):Ε->List PyData->Prop
 |nil:fL H [] []
 |cons {x:V}{xs:Ε}{d:PyData}{ds:List PyData} : Shows H x d->fL H xs ds->fL H (x::xs) (d::ds)
end
mutual
theorem Shows.same{H H':Hp}(S:Same H H'):∀{x:V}{d:PyData},Shows H x d->Shows H' x d
 |_,_,.non=>.non
 |_,_,.bl b=>.bl b
 |_,_,.int i=>.int i
 |_,_,.str x=>.str x
 |_,_,.lst e h=>.lst (S _ _ e) (fL.same S h)
 |_,_,.tup e h=>.tup (S _ _ e) (fL.same S h)
theorem fL.same{H H':Hp}(S:Same H H'):∀{xs:Ε}{ds:List PyData},fL H xs ds->fL H' xs ds
 |_,_,.nil=>.nil
 |_,_,.cons h t=>.cons (Shows.same S h) (fL.same S t)
end
theorem fL.ints(H:Hp):∀ns:List Int,fL H (ns.map V.int) (ns.map PyData.int)
 |[]=>.nil
 |n::ns=>.cons (.int n) (fL.ints H ns)
section
variable{X:Cx}{aa:Γ}{σ:L2.St}{H:Hp}{s:Shared}
mutual
theorem Inv.reads(I:Inv X aa σ H s):∀{x:V}{d:PyData}{v:Value},Shows H x d->RelV x v->∃as,Reads s.heap v d as
 |_,_,_,.non,r=>by cases r;exact⟨_,.none⟩
 |_,_,_,.bl b,r=>by cases r;exact⟨_,.bool b⟩
 |_,_,_,.int i,r=>by obtain⟨t,rfl⟩:=r;exact⟨_,.int i t⟩
 |_,_,_,.str x,r=>by obtain⟨t,rfl⟩:=r;exact⟨_,.str x t⟩
 |_,_,_,.lst e h,r=>by
  cases r;obtain⟨its,rv,⟨o,ho,hc,n,hd⟩⟩:=I.lstIs e;obtain⟨as,q⟩:=Inv.readsAll I h rv;exact⟨_,.list ho hc hd q⟩
 |_,_,_,.tup e h,r=>by
  cases r;obtain⟨its,rv,_,⟨o,ho,hc,n,hd⟩⟩:=I.tupIs e;obtain⟨as,q⟩:=Inv.readsAll I h rv;exact⟨_,.tuple ho hc hd q⟩
theorem Inv.readsAll(I:Inv X aa σ H s):∀{xs:Ε}{ds:List PyData}{vs:Δ},fL H xs ds->Vals xs vs->∃as,ReadsAll s.heap vs ds as
 |_,_,_,.nil,r=>by cases r;exact⟨_,.nil⟩
 |_,_,_,.cons h t,r=>by
  cases r with
  |cons r1 r2 =>
   obtain⟨a,q1⟩:=Inv.reads I h r1;obtain⟨b,q2⟩:=Inv.readsAll I t r2;exact⟨_,.cons q1 q2⟩
end
def ak9:Ε->Hp->VK->Prop:=λxs H Q=>∃(l:Addr)(ns:List Int),xs=[.ref l]/\H l=some (.lst (ns.map V.int))/\Q (.int ns.sum) H
def Xf(hc:X.calm=true):jq X (.builtin "sum") ak9:=by
 intro aa s σ H xs us Q I r h;obtain⟨l,ns,rfl,hl,q⟩:=h;obtain⟨u,rfl,ru⟩:=r.one;cases ru;obtain⟨its,rv,p⟩:=I.lstIs hl;have hI:=intsAre_of rv;obtain⟨xs,e⟩:=hI.allInts.items;have hn:=hI.numsOf;rw[show its=its.toArray.toList from rfl,e,nums_intItems]at hn;rw[e]at p;refine sum_intListG (I.ok.hd hc) p λh' tk t' k=>⟨.int ns.sum,H,I.kept k,?_,q⟩;rw[preSum_eq,Zyx (by simp),hn];exact⟨_,rfl⟩
end
section
variable{X:Cx}
def tM(t:TE):TE:=λσ H Q=>∃R:VK,t σ H R/\∀x H',R x H'->Q x H'
def tMA(t:TA):TA:=λσ H Q=>∃R:Ε->Hp->Prop,t σ H R/\∀x H',R x H'->Q x H'
def PE.mono{a:Expr}{t:TE}(h:PE X a t):PE X a (tM t):=λaa s σ H Q I ⟨R,h1,h2⟩ =>
 thn (h aa s σ H R I h1) λv s' hP=>by obtain⟨x,H',I',r,q⟩:=hP;exact⟨x,H',I',r,h2 x H' q⟩
def PA.mono{es:List Expr}{t:TA}(h:PA X es t):PA X es (tMA t):=λpos aa s σ H Q I ⟨R,h1,h2⟩ =>
 thn (h pos aa s σ H R I h1) λv s' hP=>by obtain⟨x,H',I',r,q⟩:=hP;exact⟨x,H',I',r,h2 x H' q⟩
def PE.imp{a:Expr}{t t':TE}(h:PE X a t)(i:∀σ H Q,t' σ H Q->t σ H Q):PE X a t':=λaa s σ H Q I q=>h aa s σ H Q I (i σ H Q q)
def alS(to:TE)(t:TA):TE:=λσ H Q=>to σ H λx H1=>∃l xs,x=.ref l/\H1 l=some (.lst xs)/\t σ H1 λvs H2=>∃y ys,vs=[y]/\H2 l=some (.lst ys)/\ys.length<sizeLine/\Q .non (upd H2 l (.lst (ys++[y])))
abbrev zo(X:Cx)(a:Pos)(e:Expr):Prop:=((backTo a (starEach [e] X.env)).all (λx=>!x.1)&&(backToKw a (keywordEach [] X.env)).all (λx=>x.1.isSome)&&decide ([e].length+([] : List Keyword).length+(if([] : List Keyword).isEmpty then 0 else 1)<30))=true
def N5{o e:Expr}{to:TE}{t:TA}{ag af:Pos}(ho:PE X o to)(ha:PA X [e] t)(hb:attributeBase o "append" X.env (eval o X.env)=eval o X.env:=by rfl)
 (hf:zo X af e:=by rfl)
 (hl:zD ag af:=by rfl)(hs:zb X e []:=by rfl)(hp:zg X af []:=by rfl) :
  PE X (.Call (.Attribute o "append" ag) [e] [] af) (alS to t):=by
 refine(aei PySem.F.plainAttrs_list PySem.F.slot_list_append PySem.F.type_list_append Lh ho.mono ha.mono hb hf hl hs hp).imp λσ H Q h=>?_;refine⟨_,h,?_⟩;rintro x H1 ⟨l,xs,rfl,hx,h2⟩;refine⟨.inl ⟨rfl,_,SqL.of hx⟩,_,h2,?_⟩;rintro vs H2 ⟨y,ys,rfl,hy,hz,q⟩;exact⟨l,ys,y,rfl,rfl,hy,hz,q⟩
def afO:Ε->Hp->VK->Prop:=λxs H Q=>∃p ys,xs=[.ref p]/\H p=some (.lst ys)/\∀l,H l=none->Q (.ref l) (upd H l (.lst ys))
def S8:jq X (.type "list") afO:=Oq.imp λxs H Q hP=>by obtain⟨p,ys,a,b,c⟩:=hP;exact⟨p,ys,a,.inl (.of b),c⟩
end
mutual
theorem UG:∀ns:List Int,PyData.canLayAll0 (ns.map PyData.int)=true
 |[]=>rfl
 |n::ns=>by
  rw[List.map_cons];unfold PyData.canLayAll0;rw[UG ns];rfl
end
inductive FL(H:Hp):Ε->List Ξ->Prop
 |nil:FL H [] []
 |cons {p:Addr}{f:Ξ}{xs:Ε}{fs:List Ξ} : H p=some (.tup [.int f.1,.int f.2])->FL H xs fs->FL H (.ref p::xs) (f::fs)
def Its(x:Str):It:=⟨λi _=>i<x.cps.size,λi H v H'=>H'=H/\∃c,x.cps[i]?=some c/\v=.str ⟨#[c]⟩,λi _=>i=x.cps.size⟩
def Q0{P:Program}{w:World}{K:Frag}{tg:Expr}(it:Addr)(x:Str)(t:Tok)(ty:String)(ie : ["enumerate","zip","dict_itemiterator","dict_reverseitemiterator","odict_iterator","itertools.zip_longest","itertools.pairwise"].contains ty=false)
 (W:∀A:Around,A.handled=none->Walks P w A it [it] [it] x.cps.size (SignAt x) (λi h=>h.IsStrIter it ty x t i))
 (ku:∀(A:Around)(i:Nat)(s:Shared)(Q:Β)(E:Β),s.heap.IsStrIter it ty x t i->Q (.ref it) s->wpAny (model P w) A (pyIter (.ref it)) Q E s):Turn P w K tg (Its x) [it] it (λi h=>h.IsStrIter it ty x t i) where
 mem:=by simp
 obj:=λi h st b hb=>by
  have e:b=it:=by simpa using hb
  subst e;obtain⟨o,ho,_,hd⟩:=st;exact⟨o,ho,λv z=>by rw[hd]at z;cases z⟩
 keep:=λi h h' st k=>let⟨o,ho,r⟩:=st;⟨o,k it (by simp) o ho,r⟩
 item:=by
  intro X hP hw hK hc i aa s σ H E I hf st hg;subst hP hw hK;obtain⟨f0,f1,f2,f3,f4,f5⟩:=hf it (by simp);refine(W X.A (I.ok.hd hc)).item i s _ _ hg st λv h' tk hv dk kk=>?_;obtain⟨c,u,hx,rfl⟩:=hv;have I1:Inv X aa σ H { s with heap:=h',toks:=tk }:=I.turned (λb o hb e=>kk b o (by simpa using hb) e) f0 f1 f3 f4 f5;obtain⟨o,ho,iF,hd⟩:=id dk;exact⟨_,rfl,Rf (s:={ s with heap:=h',toks:=tk }) ho iF hd ie ⟨.str ⟨#[c]⟩,H,I1,⟨u,rfl⟩,⟨rfl,c,hx,rfl⟩,dk,λb hb=>(hf b hb).1⟩⟩
 done:=by
  intro X hP hw hK hc i aa s σ H E I hf st hg;subst hP hw hK;obtain⟨f0,f1,f2,f3,f4,f5⟩:=hf it (by simp);have oC:i=x.cps.size:=hg;subst oC;exact(W X.A (I.ok.hd hc)).done s _ _ st λh' tk kk=>⟨rfl,I.turned (λb o hb e=>kk b o (by simpa using hb) e) f0 f1 f3 f4 f5⟩
 self:=ku
section
variable{X:Cx}{tg:Expr}
def anm(te:TE):TI:=λσ H R=>te σ H λv H1=>∃x,v=.str x/\R (Its x) H1
def af3{l:Expr}{tl:TE}(hl:PE X l tl):PI X tg l (anm tl):=by
 intro aa s σ H R I h;refine thn (hl aa s σ H _ I h) λv s1 hP=>?_;obtain⟨x,H1,I1,r1,y,ey,q⟩:=hP;subst ey;obtain⟨t,rfl⟩:=r1;have fp:∀b∈[s1.heap.objs.size],Ey X aa H1 b:=λb hb=>by
  have e:b=s1.heap.objs.size:=by simpa using hb
  subst e;exact I1.fpOk (aG _) (I1.hok.fresh (aG _))
 have k:∀o:Obj,Inv X aa σ H1 { s1 with heap:=s1.heap.push o }:=λo=>I1.kept (t':=s1.toks) λb ob z=>aH _ z;cases ha:y.cps.all (· < 128)
 .exact wpAny_pyIter_wide ha ⟨s1.heap.objs.size,[s1.heap.objs.size],_,Its y,H1,rfl,k _,Q0 _ y t "str_iterator" (by decide) (λA hA=>Walks.strWide hA _ y t) (λA i s Q E st h=>wpAny_pyIter_striter_wide st h),⟨_,aW _ rfl,rfl,rfl⟩,fp,q⟩
 .exact wpAny_pyIter_ascii ha ⟨s1.heap.objs.size,[s1.heap.objs.size],_,Its y,H1,rfl,k _,Q0 _ y t "str_ascii_iterator" (by decide) (λA hA=>Walks.strAscii hA _ y t) (λA i s Q E st h=>wpAny_pyIter_striter_ascii st h),⟨_,aW _ rfl,rfl,rfl⟩,fp,q⟩
end
def Fp(x:Str)(lo hi:Option Int):Str:=⟨((x.cps.toList.drop (HT.sIx x.length 0 lo)).take (HT.sIx x.length x.length hi-HT.sIx x.length 0 lo)).toArray⟩
def strIdx(lo hi:Option Int)(n:Nat):Builtin.Str.strSliceIndices lo hi 1 n=(List.range (HT.sIx n n hi-HT.sIx n 0 lo)).map (HT.sIx n 0 lo + ·):=by
 rw[<- sliceRange_one];unfold Builtin.Str.strSliceIndices;have h1:∀(o:Option Int)(d:Nat),d<=n->(match o with
   |none=>(d:Int)
   |some i=>(let i:=if i<0 then i+(n:Int)else i;if(1:Int)>0 then max 0 (min i n)else max (-1) (min i (n-1))))=((HT.sIx n d o:Nat):Int):=by
  intro o d hd;cases o with
  |none=>rfl
  |some i =>
   simp only[HT.sIx,show(1:Int)>0 by decide,if_true];by_cases h:i<0
   .simp only[h,if_true]<;>lia
   .simp only[h,if_false]<;>lia
 have e1:=h1 lo 0 (aZ _);have e2:=h1 hi n (aG _);simp only[show(1:Int)>0 by decide,if_true]at e1 e2 ⊢;rw[<- e1,<- e2]
 rfl
def adB(x:Str)(lo hi:Option Int):(⟨((Builtin.Str.strSliceIndices lo hi 1 x.length).filterMap (x.cps[·]?)).toArray⟩ : Str)=Fp x lo hi:=by
 rw[strIdx,pick_run];rfl
def Te(x:Str)(lo hi:Option Int)(h:(Builtin.Str.strSliceIndices lo hi 1 x.length).length=x.length):Fp x lo hi=x:=by
 rw[strIdx,ak,WJ]at h;have h2:=HT.ago x.length x.length (aG _) hi;unfold Fp;have hx:x.length=x.cps.size:=rfl;have e:x.cps.toList.length=x.length:=by simp[hx]
 by_cases z:x.length=0
 .have:x.cps.toList=[]:=List.length_eq_zero_iff.mp (Eq.trans e z);rw[this];obtain⟨⟨l⟩⟩:=x;simp at this;subst this;simp
 .have e0:HT.sIx x.length 0 lo=0:=by lia
  rw[e0,Zyy,Zyx (by lia)]
def ama:V->Option Int->Option Int->Hp->VK->Prop:=λx lo hi H Q=>∃y,x=.str y/\y.length<=sizeLine/\Q (.str (Fp y lo hi)) H
def part_of{v:Value}{o:Option Int}(h:IsPart v o):∃l:Option (Int×Tok),v=partValue l/\l.map (·.1)=o:=by
 cases h with
 |none=>exact⟨none,rfl,rfl⟩
 |int i t=>exact⟨some (i,t),rfl,rfl⟩
def agd{X:Cx} : SlR X ama:=by
 intro aa s σ H x v vl vu lo hi sl Q I rx hs pl pu h;obtain⟨y,rfl,hz,q⟩:=h;obtain⟨t,rfl⟩:=rx;obtain⟨l,rfl,el⟩:=part_of pl;obtain⟨u,rfl,eu⟩:=part_of pu;refine⟨"str",_,F.slot_str_getitem.lookup,typeIs_str s y t,wpAny_getItem_str_slice (l:=l) (u:=u) (st:=none) hs rfl ?_⟩;unfold sliceMade slicePicked;rw[el,eu];split
 .rename_i hw
  have k6:=(Bool.and_eq_true_iff.mp hw).2;rw[beq_iff_eq]at k6;have e:=Te y lo hi k6;rw[e]at q;exact⟨.str y,H,I,⟨t,rfl⟩,q⟩
 .have e:=adB y lo hi;refine⟨?_,.str (Fp y lo hi),H,I.tok _,⟨s.toks,?_⟩,q⟩
  .refine aL ?_ hz;refine aL (WG (ZH Str.length e)) ?_;show((y.cps.toList.drop _).take _).toArray.size<=y.cps.size;rw[aX,aY,US,Array.length_toList];lia
  .rw[<- e];rfl
section
variable{X:Cx}
def ajU:R2:=λx y H Q=>∃i j,x=.str i/\y=.str j/\i.length+j.length<=sizeLine/\Q (.str (i++j)) H
def aeb:OpR X (binaryOp .Add) ajU:=S7
def alU:R2:=λx y H Q=>∃i j,x=.str i/\y=.str j/\Q (.bl (!decide (j.cps.toList<i.cps.toList))) H
def ahe:OpR X (compareOp .LtE) alU:=by
 intro aa s σ H x y v u Q I rx ry h;obtain⟨i,j,rfl,rfl,q⟩:=h;obtain⟨t,rfl⟩:=rx;obtain⟨t',rfl⟩:=ry;exact PySem.P.le_str (cY I q rfl)
def OpR.imp{f:Value->Value->Sem Value}{r r':R2}(h:OpR X f r)(i:∀x y H Q,r' x y H Q->r x y H Q):OpR X f r':=λaa s σ H x y v u Q I rx ry q=>h aa s σ H x y v u Q I rx ry (i _ _ _ _ q)
theorem Kw:∀{bs:List Bool}{us:Δ},Vals (bs.map V.bl) us->∀(i:Nat)(v:Value),us[i]?=some v->∃b,bs[i]?=some b/\v=.bool b
 |[],_,.nil,i,v,h=>by cases i<;>cases h
 |b::bs,_,.cons r t,0,v,h=>by
  rw[List.getElem?_cons_zero]at h;cases h;exact⟨b,rfl,r⟩
 |b::bs,_,.cons r t,i+1,v,h=>by
  rw[List.getElem?_cons_succ]at h;exact Kw t i v h
def ahR:Ε->Hp->VK->Prop:=λxs H Q=>∃(l:Addr)(bs:List Bool),xs=[.ref l]/\H l=some (.lst (bs.map V.bl))/\Q (.bl (bs.all id)) H
theorem uE:∀bs:List Bool,((List.range bs.length).all λi=>(bs[i]?).getD true)=bs.all id
 |[]=>rfl
 |b::bs=>by
  rw[List.length_cons,List.range_succ_eq_map,List.all_cons,List.all_map,List.all_cons];have:=uE bs;simp only[Function.comp_def,List.getElem?_cons_succ,List.getElem?_cons_zero,Option.getD_some,id]at this ⊢;rw[this]
def Ye(hc:X.calm=true):jq X (.builtin "all") ahR:=by
 intro aa s σ H xs us Q I r h;obtain⟨l,bs,rfl,hl,q⟩:=h;obtain⟨u,rfl,ru⟩:=r.one;cases ru;obtain⟨its,rv,p⟩:=I.lstIs hl;have eL:l<s.heap.objs.size:=by obtain⟨_,e,_⟩:=p;exact aK e
 refine call_all_walk (wpAny_pyIter_list p ?_);refine⟨s.heap.objs.size,[s.heap.objs.size,l],[s.heap.objs.size],its.toArray.size,_,_,λi=>(bs[i]?).getD true,rfl,Walks.list (A:=X.A.in1) (I.ok.hd hc) _ l (aQ eL) its.toArray,
  ⟨⟨_,aW _ rfl,rfl,rfl⟩,p.push _⟩,λi v s' Q' E' hP hQ=>?_,λh' tk hk=>?_⟩
 .obtain⟨b,e,rfl⟩:=Kw rv i v (by simpa using hP);simp only[e,Option.getD_some]at hQ;exact wpAny_truthy_bool hQ
 .have e:((List.range its.toArray.size).all λi=>(bs[i]?).getD true)=bs.all id:=by
   rw[aX,<- rv.length,ak];exact uE bs
  refine⟨.bl (bs.all id),H,I.kept (t':=tk) λb o q=>hk b o (λhm=>?_) (aH _ q),?_,q⟩
  .rw[YR.mp hm]at q;exact X2 _ (aK q)
  .rw[e];rfl
def tSM(r:V->Ε->Hp->VK->Prop)(to:TE)(t:TA):TE:=λσ H Q=>to σ H λx H1=>(∃y,x=.str y)/\t σ H1 λvs H2=>r x vs H2 Q
def ajE{o e:Expr}{to:TE}{t:TA}{name:Str}{id:String}{r:V->Ε->Hp->VK->Prop}{ag af:Pos}(slot:Slot "str" name id)(ie:typeOf (.builtin id)=pure (.type "method_descriptor"))(hm:MtM X id r)(ho:PE X o to)(ha:PA X [e] t)
 (hb:zt X o name:=by rfl)
 (hf:zo X af e:=by rfl)
 (hl:zD ag af:=by rfl)(hs:zb X e []:=by rfl)(hp:zg X af []:=by rfl) :
  PE X (.Call (.Attribute o name ag) [e] [] af) (tSM r to t):=by
 refine(aei PySem.F.plainAttrs_str slot ie hm ho.mono ha hb hf hl hs hp).imp λσ H Q h=>?_;refine⟨_,h,?_⟩;rintro x H1 ⟨⟨y,rfl⟩,h2⟩;exact⟨rfl,h2⟩
def ZV{x:Str}{v:V}{pos:Pos}(hg:Gl X x)(hm:∃u,X.mg x=some u/\RelV v u)(hd:zk x:=by decide):PE X (.Name x pos) (tC v):=by
 obtain⟨u,h1,h2⟩:=hm;exact Vq hg h1 h2 hd
def RK{st:Stmt}{t:TS}(h1:PSB X st t):adq X [st] t:=⟨pZ h1.out⟩
end
def hid(y:Str):Str:=Str.ofString "?"++y
def La(xs:Θ)(N:Θ):Θ:=N.map λy=>if y∈xs then hid y else y
def Cx.compG(X:Cx)(N':Θ)(scope:Scope)(xs:Θ)(C:Addr)(s₀:Shared)(H₀:Hp)(ex:Φ)(pn:Γ):Cx :=
 { X with env:=compEnvC scope (uG X.env.cells scope.names []) C X.env,N:=xs++N',s₀:=s₀,H₀:=H₀,outer:=X.stack,ex:=ex,fn:=λ_=>false,pn:=pn,xe:=λ_ _=>False }
def PTs(X:Cx)(aI:List Expr)(tc:TT):Prop:=∀(aa:Γ)(s:Shared)(σ:L2.St)(H:Hp)(Q:Bool->Hp->Prop),Inv X aa σ H s->tc σ H Q ->
 wpAny (model X.prog X.w) X.A (forIn aI true λc r=>if r=true then do let ok <- isTrue c X.env (eval c X.env);pure (ForInStep.yield ok)else pure (ForInStep.yield r)) (λb s'=>∃H',Inv X aa σ H' s'/\Q b H') X.xe s
def amg:TT:=λ_ H Q=>Q true H
def aci{X:Cx} : PTs X [] amg:=λ_ _ _ H _ I q=>wpAny_tests_nil ⟨H,I,q⟩
def ad5{X:Cx}{c:Expr}{tc:TT}(h:PT X c tc):PTs X [c] tc:=λaa s σ H Q I q=>wpAny_tests_one (h aa s σ H Q I q)
def qg(wi:TI)(n:Nat)(gt:TG)(tc:TT)(te:TE):TE:=λσ H Q=>wi σ H λJ H1=>∀D,H1 D=none->∃W:Nat->Nat->Ε->Hp->Prop,(∃m,W 0 m [] (upd H1 D (.lst [])))/\∀i m ys Hc,W i m ys Hc ->
 (J.stop i Hc/\Q (.ref D) Hc)\/(J.go i Hc/\∀x H',J.yld i Hc x H'->∀pre:L2.St,pre.length=n->gt x (pre++σ) H' λσ2 H2=>∃b8:L2.St,b8.length=n/\σ2=b8++σ/\tc σ2 H2 λb H3 =>
  match b with
  |true=>te σ2 H3 λy H4=>ys.length<sizeLine/\H4 D=some (.lst ys)/\∃m',m'<m/\W (i+1) m' (ys++[y]) (upd H4 D (.lst (ys++[y])))
  |false=>∃m',m'<m/\W (i+1) m' ys H3)
def Cx.compE(X:Cx)(ext:Addr->List (Str×Addr))(fn:Str->Bool)(N':Θ)(scope:Scope)(xs:Θ)(C:Addr)(s₀:Shared)(H₀:Hp)(ex:Φ)(pn:Γ):Cx :=
 { X with env:=compEnvC scope (ext C++uG X.env.cells scope.names []) C X.env,N:=xs++N',s₀:=s₀,H₀:=H₀,outer:=X.stack,ex:=ex,fn:=fn,pn:=pn,xe:=λ_ _=>False }
structure SN(X:Cx)(scope:Scope)(xs:Θ)(ext:Addr->List (Str×Addr))(fn:Str->Bool):Prop where
 new:∀{M:Model}{A:Around}{E:Β}{s:Shared}{globals:Addr}{bX:List (Str×Addr)}{ah:Str}{outer:Env}{Q:Env->Shared->Prop},(∀g,g.Ns s.heap.objs.size (λx=>([] : List (Str×Value)).reverse.lookup x)->(∀y c,(ext s.heap.objs.size).lookup y=some c->g.IsCell c none)->(∀b o,s.heap.get? b=some o->g.get? b=some o)->Q (newEnv scope s.heap.objs.size globals (ext s.heap.objs.size++bX) ah none .none (some outer) builtinsNs) { s with heap:=g,toks:=s.toks+([] : List (Str×Value)).length }) ->
  wpAny M A (newFunctionEnv scope globals bX [] ah none .none (some outer)) Q E s
 up:∀C y c,(ext C).lookup y=some c->C<c
 one:∀C y z c,(ext C).lookup y=some c->(ext C).lookup z=some c->y=z
 nw:∀C y,fn y=true->∃c,(ext C).lookup y=some c
 off:∀C y,y∉xs->(ext C).lookup y=none
 kd:∀C y,((relabel scope X.env).names.lookup y=some .cell\/(relabel scope X.env).names.lookup y=some .free)->(∃c,(ext C).lookup y=some c)\/(y,NameKind.free)∈scope.names
def akQ{X:Cx}{scope:Scope}{xs:Θ}(hk:scope.kind=.function)(c6:∀y∈scope.names,y.2≠.cell):SN X scope xs (λ_=>[]) (λ_=>false) :=
 ⟨λhQ=>wpAny_newFunctionEnv c6 (by intro y hy;simp at hy) (λg eK hsb=>hQ g eK (λ_ _ z=>(nomatch z)) λb o e=>(hsb.2 b (aQ (aK e))).trans (aH _ e)) hk,λ_ _ _ z=>(nomatch z),λ_ _ _ _ z=>(nomatch z),λ_ _ z=>(nomatch z),λ_ _ _=>rfl,λ_ _ e=>.inr (Ae e c6)⟩
section
variable{X:Cx}{bg iter:Expr}{pos:Pos}{scope:Scope}{wi:TI}{te:TE}
def Lb{ext:Addr->List (Str×Addr)}{fn:Str->Bool}{use:Option (Value->Sem Unit)}{post:Β}{Qv:VK}{aa:Γ}{s:Shared}{σ:L2.St}{H:Hp}{pp:Pos}{xs N':Θ}{tg:Expr}{aI:List Expr}{gt:TG}{tc:TT}(E:SN X scope xs ext fn)(hc:X.calm=true)(gy:La xs X.N=N')(ci:scope.kind=.function)(c5:∀y∈scope.names,y.2=.local->scope.names.lookup y.1=some .local)
 (ce:∀y∈scope.names,y.2=.free->X.env.kindOf y.1=some .cell\/X.env.kindOf y.1=some .free)(fq:∀y∈X.N,y∉xs->(relabel scope X.env).names.lookup y≠some .local)(hq:∀y∈X.N,y∈xs->(relabel scope X.env).names.lookup (hid y)=none)(hi:PI X tg iter wi)
 (hg:∀C s₀ H₀ ex pn,PG (X.compE ext fn N' scope xs C s₀ H₀ ex pn) tg gt)(ht:∀C s₀ H₀ ex pn,PTs (X.compE ext fn N' scope xs C s₀ H₀ ex pn) aI tc)(he:∀C s₀ H₀ ex pn,PE (X.compE ext fn N' scope xs C s₀ H₀ ex pn) bg te)(hs:zh X iter)(I:Inv X aa σ H s)(h:qg wi xs.length gt tc te σ H Qv)
 (qV:∀(C D:Addr)(Hc:Hp)(s6:Shared)(m:Str->Ψ)(fl:Flow),s6.heap.Ns C m->Inv X aa σ Hc s6->Ey X aa Hc C->Qv (.ref D) Hc->compPost (model X.prog X.w) X.A X.xe use post (.ref D) C (.ok fl) s6) :
  wpAny (model X.prog X.w) X.A (comprehension (.ListComp bg [⟨tg,iter,aI,0⟩] scope pos) scope X.env pp (newList []) false (eval iter X.env) use) post X.xe s:=by
 have dA:∀y∈scope.names,y.2=.free->∃c,X.env.cells.lookup y.1=some c:=λy hy e=>I.ok.has y.1 (ce y hy e);refine wpAny_comprehension_free (use:=use) (Q:=post) rfl hs (Uv dA) ci c5 (thn (hi aa s σ H _ I h) λv s1 h1=>thn h1 λmT s2 h2=>?_);obtain⟨it,fp,tn,J,H2,e,I2,T,fA,f2,R⟩:=h2;subst e;have nD:H2 s2.heap.objs.size=none:=I2.hok.fresh (aG _);obtain⟨W,⟨m0,w0⟩,fc⟩:=R s2.heap.objs.size nD;refine wpAny_newObj_type ?_ (by show 0<=sizeLine;exact aZ _);have I3:Inv X aa σ (upd H2 s2.heap.objs.size (.lst [])) { s2 with heap:=s2.heap.push { cls:=.type "list",dict:=none,data:=.seq ([] : Δ).toArray } }:=I2.lnew (t':=s2.toks) (ys:=[]) (its:=[]) .nil (aZ _);have my:∀b o,s2.heap.get? b=some o->(s2.heap.push { cls:=.type "list",dict:=none,data:=.seq ([] : Δ).toArray }).get? b=some o:=λb o e=>aH _ e;generalize hs3:({ s2 with heap:=s2.heap.push { cls:=.type "list",dict:=none,data:=.seq ([] : Δ).toArray } } : Shared)=s3 at I3 ⊢;have iX:tn 0 s3.heap:=T.keep _ _ _ fA λb _ o e=>by rw[<- hs3];exact my b o e
 generalize hH3:upd H2 s2.heap.objs.size (.lst [])=H3 at I3 w0;have f3:∀b∈fp,Ey X aa H3 b:=λb hb=>by
  obtain⟨a1,a2⟩:=f2 b hb;refine⟨?_,a2⟩;obtain⟨o,e,_⟩:=T.obj _ _ fA b hb;rw[<- hH3,bO (aQ (aK e))];exact a1
 refine E.new λg eK iF kg=>?_;have clm:∀{y:Str}{c:Addr},(uG X.env.cells scope.names []).lookup y=some c->X.env.cells.lookup y=some c:=λ{y c}e=>by
  rcases Ro dA (PySem.mem_of_lookup e)with z|z
  .cases z
  .exact z
 have gv:∀{y:Str},(ext s3.heap.objs.size).lookup y=none->((relabel scope X.env).names.lookup y=some .cell\/(relabel scope X.env).names.lookup y=some .free)->(X.env.kindOf y=some .cell\/X.env.kindOf y=some .free)/\∃c,(ext s3.heap.objs.size++uG X.env.cells scope.names []).lookup y=some c/\X.env.cells.lookup y=some c:=λ{y}ny e=>by
  rcases E.kd s3.heap.objs.size y e with⟨c,z⟩|z
  .rw[ny]at z;cases z
  .obtain⟨c,cm⟩:=Rg (cells:=X.env.cells) (acc:=[]) (.inl z);obtain⟨c,cm⟩:=oX cm;exact⟨ce _ z rfl,c,by rw[Zxr,ny];exact cm,clm cm⟩
 have kM:∀{y:Str}{c:Addr},(ext s3.heap.objs.size++uG X.env.cells scope.names []).lookup y=some c->(ext s3.heap.objs.size).lookup y=some c\/X.env.cells.lookup y=some c:=λ{y c}e=>by
  rw[Zxr]at e;cases hy:(ext s3.heap.objs.size).lookup y with
  |some d=>rw[hy]at e;exact .inl e
  |none=>rw[hy]at e;exact .inr (clm e)
 have cll:∀{y z c},(ext s3.heap.objs.size).lookup z=some c->¬X.env.cells.lookup y=some c:=λ{y z c}e1 e=>by
  obtain⟨v,o,h1,_⟩:=I3.cell y c e;exact X2 _ (Ts (aK h1) (E.up _ _ _ e1))
 have ki:∀b∈fp,b<s3.heap.objs.size:=λb hb=>by
  obtain⟨o,e,_⟩:=T.obj _ _ iX b hb;exact aK e
 have nst:∀b∈fp,b∉frs X.stack:=λb hb=>I3.nostk' (f3 b hb).2.1 (f3 b hb).2.2.1;have cfp:∀b∈fp,∀y c,(ext s3.heap.objs.size++uG X.env.cells scope.names []).lookup y=some c->c≠b:=λb hb y c e=>by
  rcases kM e with z|z
  .exact VW (Ts (ki b hb) (E.up _ _ _ z))
  .exact(f3 b hb).2.2.2.2.1 y c z
 generalize hX:X.compE ext fn N' scope xs s3.heap.objs.size s3 H3 fp (X.pn++aa)=Y;have ok':Y.Ok:=by
  subst hX;exact⟨I3.ok.mod,ci,I3.ok.glob,I3.ok.blt,aG _,λy z c h1 h2=>by
    rcases kM h1 with e1|e1<;>rcases kM h2 with e2|e2
    .exact E.one _ _ _ _ e1 e2
    .exact absurd e2 (cll e1)
    .exact absurd e1 (cll e2)
    .exact I3.ok.inj y z c e1 e2,λy hy=>by
    cases hz:(ext s3.heap.objs.size).lookup y with
    |some c=>exact⟨c,List.lookup_append.trans (by rw[hz];rfl)⟩
    |none=>exact let⟨_,c,q,_⟩:=gv hz hy;⟨c,q⟩,λy c kD e=>by
    obtain⟨d,z⟩:=E.nw s3.heap.objs.size y kD;have e:(ext s3.heap.objs.size++uG X.env.cells scope.names []).lookup y=some c:=e;rw[Zxr,z]at e;cases e;exact Y2 (E.up _ _ _ z),I3.ok.hd,I3.ok.frames,.inl rfl,
   λb hb=>⟨aQ (ki b hb),cfp b hb⟩,I3.bs,aL I3.ok.bsz I3.sz,λb o e hb=>by
    rcases(f3 b hb).2.2.2.1 with z|z
    .exact I3.ok.noex b o e z
    .exact absurd (aR (aR (aK e) I3.ok.bsz) z) (X2 _),nst,I3.stack,I3.stkFree⟩
 have J4:∀tk,Inv Y [] (List.replicate xs.length none++σ) H3 { s3 with heap:=g,toks:=tk }:=λtk=>by
  subst hX;refine⟨ok',rfl,I3.bare,Un.kept kg,⟨_,eK,λi y v e1 e2 e3=>?_⟩,λy c e=>?_,I3.hok.fresh (aG _),λy c e=>(kM e).elim (λz=>I3.hok.fresh (Y2 (E.up _ _ _ z))) (I3.freeC y c),λp hp=>?_,I3.hok.kept kg,?_⟩
  .by_cases kC:i<xs.length
   .rw[aF (by rw[aN];exact kC),XG,ZY kC]at e2;cases e2
   .obtain⟨j,rfl⟩ : ∃j,i=xs.length+j:=⟨i-xs.length,by lia⟩;have e0:N'[j]?=some y:=by
     have e1:(xs++N')[xs.length+j]?=some y:=e1;rw[aD (X1 _ _)]at e1;rw[show xs.length+j-xs.length=j by exact Tk _ _]at e1;exact e1
    have lP:σ[j]?=some (some v):=by
     rw[aD (by rw[aN];exact X1 _ _),aN]at e2;rw[show xs.length+j-xs.length=j by exact Tk _ _]at e2;exact e2
    rw[<- gy]at e0;obtain⟨y0,gp,ey⟩ : ∃y0,X.N[j]?=some y0/\(if y0∈xs then hid y0 else y0)=y:=by
     unfold La at e0;rw[aq]at e0;cases hz:X.N[j]? with
     |none=>rw[hz]at e0;cases e0
     |some y0=>rw[hz]at e0;exact⟨y0,rfl,Option.some.inj e0⟩
    have e3:(relabel scope X.env).names.lookup y=some .local\/(relabel scope X.env).names.lookup y=some .cell\/(relabel scope X.env).names.lookup y=some .free:=e3;have ne:¬y0∈xs:=λz=>by
     rw[ZY z]at ey;subst ey;rw[hq y0 (aC gp) z]at e3;rcases e3 with z|z|z<;>cases z
    rw[ZZ ne]at ey;subst ey;have e3':(relabel scope X.env).names.lookup y0=some .cell\/(relabel scope X.env).names.lookup y0=some .free:=by
     rcases e3 with z|z
     .exact absurd z (fq y0 (aC gp) ne)
     .exact z
    obtain⟨kd,c,iF,lI⟩:=gv (E.off _ _ ne) e3';obtain⟨m,_,hl⟩:=I3.loc;obtain⟨u,r,lk⟩:=hl j y0 v gp lP (.inr kd);refine⟨u,r,.inr ⟨e3',c,iF,?_⟩⟩;rcases lk with⟨k1,_⟩|⟨_,c',q1,o,q2,q3⟩
    .exfalso;have k1':X.env.kindOf y0=some .local:=k1;rcases kd with k2|k2<;>rw[k1']at k2<;>cases k2
    .rw[lI]at q1;cases q1;exact⟨o,kg _ _ q2,q3⟩
  .rcases kM e with z|z
   .exact⟨none,iF y c z⟩
   .obtain⟨v,o,q2,q3⟩:=I3.cell y c z;exact⟨v,o,kg _ _ q2,q3⟩
  .have eJ:p∈X.pn++aa:=by simpa[Cx.compE]using hp
   obtain⟨a1,a2,a3,a4,a5⟩:=I3.pin p eJ;exact⟨kg _ _ a1,a2,aQ (aK a1),I3.nostk' a3 a4,a5⟩
  .show(List.replicate xs.length none++σ).length=(xs++N').length;have gN:N'.length=X.N.length:=by rw[<- gy];unfold La;rw[ak]
   rw[aA,aN,aA,I3.len,gN]
 have qo:∀{Hc:Hp},(∀b∈fp,Hc b=none)->∀b∈fp,Ey Y [] Hc b:=λ{Hc}hn b hb=>by
  subst hX;exact⟨hn b hb,aQ (ki b hb),nst b hb,.inl hb,cfp b hb,λp hp=>(f3 b hb).2.2.2.2.2 p (by simpa[Cx.compE]using hp)⟩
 have ic:∀s4:Shared,s4={ s3 with heap:=g,toks:=s3.toks+([] : List (Str×Value)).length } ->
   codeAny (model X.prog X.w) X.A (.compLoop (.ListComp bg [⟨tg,iter,aI,0⟩] scope pos) 0 (.ref it) (.ref s2.heap.objs.size) Y.env) (compPost (model X.prog X.w) X.A X.xe use post (.ref s2.heap.objs.size) s3.heap.objs.size) s4:=by
  rintro s4 rfl;have YP:Y.prog=X.prog/\Y.w=X.w/\Y.K=X.K/\Y.calm=X.calm/\Y.A=X.A/\Y.env.locals=s3.heap.objs.size:=by subst hX;exact⟨rfl,rfl,rfl,rfl,rfl,rfl⟩
  obtain⟨y1,y2,y3,y4,y5,y6⟩:=YP;have he':PE Y bg te:=by subst hX;exact he _ _ _ _ _
  have oC:PG Y tg gt:=by subst hX;exact hg _ _ _ _ _
  have ht':PTs Y aI tc:=by subst hX;exact ht _ _ _ _ _
  have kN:Y.xe=λ_ _=>False:=by subst hX;rfl
  have yb:∀{Hc:Hp}{w':L2.St}{pn:Γ}{s':Shared},Inv Y pn w' Hc s'->Un (frs X.stack) fp H3 Hc s3.heap s'.heap:=λ{Hc w' pn s'}Z=>by
   have:=Z.base;subst hX;exact this
  have yos:∀{Hc:Hp}{w':L2.St}{pn:Γ}{s':Shared},Inv Y pn w' Hc s'->s'.os=s3.os:=λ{Hc w' pn s'}Z=>by
   have:=Z.os;subst hX;exact this
  refine codeAny_loop rfl (λn s'=>∃i ys Hc,∃w':L2.St,w'.length=xs.length/\Inv Y [] (w'++σ) Hc s'/\tn i s'.heap/\(∀b∈fp,Hc b=none)/\W i n ys Hc) (λn s5 hI=>?_) m0 ⟨0,[],H3,List.replicate xs.length none,aN,J4 _,T.keep _ _ _ iX λb _ o e=>kg b o e,λb hb=>(f3 b hb).1,w0⟩;obtain⟨i,ys,Hc,w',k6,Z,stc,frc,wc⟩:=hI;show wpAny _ _ ((compTurn (.ListComp bg [⟨tg,iter,aI,0⟩] scope pos) 0 (.ref it) (.ref s2.heap.objs.size) Y.env).onRaise (λz=>do noteFrame z Y.env;theTreesLotGoes z)) _ _ s5;refine wpAny_noted (wpAny_noRaise ?_);rw[compTurn_list];show wpAny (model X.prog X.w) X.A _ _ _ _;rcases fc i n ys Hc wc with⟨stop,qn⟩|⟨go,step⟩
  .have hd:=T.done Y y1 y2 y3 (y4.trans hc) i [] s5 (w'++σ) Hc (λ_ _=>False) Z (qo frc) stc stop;rw[y5]at hd;refine ZU (wpAny_standAt (ZU (thn hd λr s6 hP=>?_)));obtain⟨hr,Z6⟩:=hP;subst hr;refine ZT ?_;obtain⟨m,kz,_⟩:=Z6.loc;rw[y6]at kz;have u6:=yb Z6;have hok:HOk X.prog X.w Hc s6.heap:=by
    have z:=Z6.hok;rw[y1,y2]at z;exact z
   have cn:Hc s3.heap.objs.size=none:=by
    have z:=Z6.free;rw[y6]at z;exact z
   have I6:Inv X aa σ Hc s6:=I3.call' (s':=s6) (ch:=fp) (yos Z6) u6 hok Z6.bare λb hb=>⟨(f3 b hb).2.2.2.1,(f3 b hb).2.1,(f3 b hb).2.2.2.2.1,(f3 b hb).2.2.2.2.2⟩;have fC:Ey X aa Hc s3.heap.objs.size:=I3.fpOk (aG _) cn;exact qV _ _ Hc s6 m _ kz I6 fC qn
  .have hd:=T.item Y y1 y2 y3 (y4.trans hc) i [] s5 (w'++σ) Hc (λ_ _=>False) Z (qo frc) stc go;rw[y5]at hd;refine ZU (wpAny_standAt (ZU (thn hd λr s6 hP=>?_)));obtain⟨u,hr,h6⟩:=hP;subst hr;refine ZU (thn h6 λ_ s7 hP=>?_);obtain⟨xv,H7,Z7,r7,yl,mf,fr7⟩:=hP;have Z7':=Z7.pinned (qo fr7) (T.obj _ _ mf);have bj:=oC _ s7 _ H7 xv u _ Z7' r7 (step xv H7 yl w' k6);rw[y1,y2,y5,kN]at bj;refine ZU (thn bj λ_ s8 hP=>?_);obtain⟨σ8,H8,Z8,pre,eR,e8,q8⟩:=hP;subst e8;have hte:=ht' _ s8 _ H8 _ Z8 q8;rw[y1,y2,y5,kN]at hte;have aS:∀{m':Nat}{ja:Ε}{H9:Hp}{s9:Shared},Inv Y ([]++IV fp s7.heap) (pre++σ) H9 s9->m'<n->W (i+1) m' ja H9->∃m,m<n/\∃i ys Hc,∃w':L2.St,w'.length=xs.length/\Inv Y [] (w'++σ) Hc s9/\tn i s9.heap/\(∀b∈fp,Hc b=none)/\W i m ys Hc:=λ{m' ja H9 s9}Z9 kA w9 =>
    ⟨m',kA,i+1,ja,H9,pre,eR,Z9.unpinned,T.keep _ _ _ mf λb hb o e=>(Z9.pin (b,o) (aP _ (aP _ (pH hb e)))).1,λb hb=>by
     obtain⟨o,e,_⟩:=T.obj _ _ mf b hb;exact(Z9.pin (b,o) (aP _ (aP _ (pH hb e)))).2.1,w9⟩
   refine ZU (thn hte λok s9 hP=>?_);obtain⟨H9,Z9,q9⟩:=hP;cases ok with
   |false =>
    obtain⟨m',kA,w9⟩:=q9;exact ZT ⟨rfl,aS Z9 kA w9⟩
   |true =>
    have hel:=he' _ s9 _ H9 _ Z9 q9;rw[y1,y2,y5,kN]at hel;refine ZU (ZU (thn hel λev i4 hP=>?_));obtain⟨yv,H10,Z10,r10,hz,qf,m',kA,w10⟩:=hP;have p6:=Lh (X:=Y) _ i4 _ H10 (.ref s2.heap.objs.size) [yv] (.ref s2.heap.objs.size) [ev] (λ_ Hf=>Hf=upd H10 s2.heap.objs.size (.lst (ys++[yv]))) Z10 rfl (.cons r10 .nil) ⟨_,ys,yv,rfl,rfl,qf,hz,rfl⟩;rw[y1,y2,y5,kN]at p6;refine ZU (thn p6 λav s11 hP=>?_);obtain⟨_,H11,Z11,_,e11⟩:=hP;subst e11;exact ZT (ZT ⟨rfl,aS Z11 kA w10⟩)
 have o0:Y.env=compEnvC scope (ext s3.heap.objs.size++uG X.env.cells scope.names []) s3.heap.objs.size X.env:=by subst hX;rfl
 rw[o0]at ic;exact codeAny_compStart_list (ic _ rfl) (T.self _ 0 _ _ _ (T.keep _ _ _ iX λb _ o e=>kg b o e) (ic _ rfl))
def Rr{ext:Addr->List (Str×Addr)}{fn:Str->Bool}{xs N':Θ}{tg:Expr}{aI:List Expr}{gt:TG}{tc:TT}(E:SN X scope xs ext fn)(hc:X.calm=true)(gy:La xs X.N=N')(ci:scope.kind=.function)(c5:∀y∈scope.names,y.2=.local->scope.names.lookup y.1=some .local)
 (ce:∀y∈scope.names,y.2=.free->X.env.kindOf y.1=some .cell\/X.env.kindOf y.1=some .free)(fq:∀y∈X.N,y∉xs->(relabel scope X.env).names.lookup y≠some .local)(hq:∀y∈X.N,y∈xs->(relabel scope X.env).names.lookup (hid y)=none)(hi:PI X tg iter wi)
 (hg:∀C s₀ H₀ ex pn,PG (X.compE ext fn N' scope xs C s₀ H₀ ex pn) tg gt)(ht:∀C s₀ H₀ ex pn,PTs (X.compE ext fn N' scope xs C s₀ H₀ ex pn) aI tc)(he:∀C s₀ H₀ ex pn,PE (X.compE ext fn N' scope xs C s₀ H₀ ex pn) bg te)(hs:zh X iter) :
  PE X (.ListComp bg [⟨tg,iter,aI,0⟩] scope pos) (qg wi xs.length gt tc te):=by
 intro aa s σ H Q I h;rw[eval_ListComp];exact Lb E hc gy ci c5 ce fq hq hi hg ht he hs I h λC D Hc s6 m fl hn I6 fC q=>⟨m,hn,λh' nK=>⟨.ref D,Hc,I6.turned (it:=C) (h':=h') (t':=s6.toks) (λb o hb e=>(nK.2 b hb).trans e) fC.1 fC.2.1 fC.2.2.2.1 fC.2.2.2.2.1 fC.2.2.2.2.2,rfl,q⟩⟩
end
section
variable{X:Cx}{k:Nat}{f C:Addr}{fd:FuncData}{ps:Θ}{sp:Sp}{cf:Ε}{ds:Δ}{x m:Str}{p pos ag:Pos}{e o:Expr}{es:List Expr}{ta:TE}{t:TA}{Ex:Value->Ω->L2.St->Hp->Prop}
def ac2{aa:Γ}{σ:St}{H:Hp}{s:Shared}{Q:VK}{us:Δ}{vs:Ε}(F:dI X.prog X.w X.K X.mg X.base (CXO X.prog X.w) k f fd ps sp)(hr:dh k X.A)(hb:Binds X.K fd ps ds)(hd:Vals cf ds)(hx:Yu X Ex)
 (I:Inv X aa σ H s)(r:Vals vs us)(h:sp (vs++cf) H Q λC d H'=>Ex C d σ H'):wpAny (model X.prog X.w) X.A (call (.ref f) us) (EP X aa σ Q) X.xe s:=by
 have r2:Vals (vs++cf) (us++ds):=r.append hd;have hl:(us++ds).length=ps.length:=by rw[<- r2.length];exact F.len _ _ _ _ h
 refine wpAny_call (codeAny_mono (F.run X.A X.stack s H ⟨us,[]⟩ (us++ds) (vs++cf) Q _ hr I.env0 (hb s us I.kIn hl) r2 h) λr s' hq=>?_);cases r with
 |error e =>
  obtain⟨a,C,d,H',B,rfl,Fl,q'⟩:=hq;exact hx aa σ H s a C H' s' B d I Fl q'
 |ok fl =>
  cases fl with
  |ret u=>exact I.after hq
  |next=>exact False.elim hq
  |brk=>exact False.elim hq
  |cont=>exact False.elim hq
end
section
variable{κ:Type}[DecidableEq κ]
def G_(kvs:List (κ×V))(k:κ):Option V:=(kvs.find? λkv=>decide (kv.1=k)).map (·.2)
def putK(kvs:List (κ×V))(k:κ)(v:V):List (κ×V) :=
 if(kvs.any λkv=>decide (kv.1=k))=true then kvs.map (λkv=>if kv.1=k then(kv.1,v)else kv)else kvs++[(k,v)]
def Q7{p:κ×V}{r:List (κ×V)}{k:κ}(e:p.1=k):G_ (p::r) k=some p.2:=by simp[G_,Zyv,e]
def Gx{p:κ×V}{r:List (κ×V)}{k:κ}(e:¬p.1=k):G_ (p::r) k=G_ r k:=by simp[G_,Zyv,e]
def Qh(kvs:List (κ×V))(k:κ)(v:V):(putK kvs k v).length<=kvs.length+1:=by
 unfold putK;split
 .rw[ak];exact Xs _
 .rw[aA,List.length_cons,List.length_nil];exact aG _
def xV.isSome_eq{o:Option V}{u:Ψ}(r:xV o u):o.isSome=u.isSome:=by
 cases o with
 |none=>cases u with
  |none=>rfl
  |some _=>exact(show False from r).elim
 |some _=>cases u with
  |none=>exact(show False from r).elim
  |some _=>rfl
def xV.getD{o:Option V}{u:Ψ}{d:V}{d':Value}(r:xV o u)(rd:RelV d d'):RelV (o.getD d) (u.getD d'):=by
 cases o with
 |none=>cases u with
  |none=>exact rd
  |some _=>exact(show False from r).elim
 |some _=>cases u with
  |none=>exact(show False from r).elim
  |some _=>exact r
def KV.val{kvs:List (κ×V)}{vs:List (κ×Value)}(r:KV kvs vs)(k:κ):xV (G_ kvs k) (valueAt vs k):=by
 unfold KV at r
 induction r with
 |nil=>exact True.intro
 |@cons p q ps qs h t ih =>
  obtain⟨h1,h2⟩:=h;by_cases e:p.1=k
  .have e':q.1=k:=h1.symm.trans e;have b:valueAt (q::qs) k=some q.2:=by simp[valueAt,Zyv,e']
   rw[Q7 e,b];exact h2
  .have e':¬q.1=k:=λz=>e (h1.trans z);have b:valueAt (q::qs) k=valueAt qs k:=by simp[valueAt,Zyv,e']
   rw[Gx e,b];exact ih
def KV.any{kvs:List (κ×V)}{vs:List (κ×Value)}(r:KV kvs vs)(k:κ):(kvs.any λkv=>decide (kv.1=k))=vs.any λkv=>decide (kv.1=k):=by
 unfold KV at r
 induction r with
 |nil=>rfl
 |cons h t ih=>rw[List.any_cons,List.any_cons,ih,h.1]
def KV.repl{kvs:List (κ×V)}{vs:List (κ×Value)}(r:KV kvs vs)(k:κ){y:V}{u:Value}(ry:RelV y u) :
  KV (kvs.map λkv=>if kv.1=k then(kv.1,y)else kv) (vs.map λkv=>if kv.1=k then(kv.1,u)else kv):=by
 unfold KV at r ⊢
 induction r with
 |nil=>exact .nil
 |@cons p q ps qs h t ih =>
  rw[List.map_cons,List.map_cons];refine .cons ?_ ih;obtain⟨h1,h2⟩:=h;by_cases e:p.1=k
  .rw[ZY e,ZY (h1.symm.trans e)];exact⟨h1,ry⟩
  .rw[ZZ e,ZZ (λz=>e (h1.trans z))];exact⟨h1,h2⟩
def KV.put{kvs:List (κ×V)}{vs:List (κ×Value)}(r:KV kvs vs)(k:κ){y:V}{u:Value}(ry:RelV y u):KV (putK kvs k y) (stored vs k u):=by
 unfold putK stored;rw[r.any k];by_cases e:(vs.any λkv=>decide (kv.1=k))=true
 .rw[ZY e,ZY e];exact r.repl k ry
 .rw[ZZ e,ZZ e];exact Paired.snoc r ⟨rfl,ry⟩
def KV.length{kvs:List (κ×V)}{vs:List (κ×Value)}(r:KV kvs vs):kvs.length=vs.length:=Paired.length r
end
def Qp{P:Program}{w:World}{k:Key}{u:Value}(r:RelV (kV k) u):(jH P w).is k u=true:=by
 cases k with
 |inl i=>obtain⟨t,e⟩:=(show ∃t,u=Value.int i t from r);subst e;exact QH P w i t
 |inr x=>obtain⟨t,e⟩:=(show ∃t,u=Value.str x t from r);subst e;exact RJ P w x t
section
variable{P:Program}{w:World}{H:Hp}{h:Heap}{a:Addr}
def ahA{u:HO}(ok:HOk P w H h)(e:Rd H a u):eX P w H h a u:=e.ok ok
def Hi{kvs:List (Key×V)}(ok:HOk P w H h)(e:Rd H a (.dK kvs)):kvs.length<=sizeLine/\(a==sysModules)=false/\∃vs,KV kvs vs/\h.DictOf (jH P w) a vs :=
 show eX P w H h a (.dK kvs)from ahA ok e
def ai4{kvs:List (Key×V)}(ok:HOk P w H h)(e:H a=some (.dK kvs)):kvs.length<=sizeLine/\(a==sysModules)=false/\∃vs,KV kvs vs/\h.DictOf (jH P w) a vs:=Hi ok (.inl e)
end
def Dj(H:Hp)(a:Addr)(y:V)(r:Option V):Prop :=
 (∃kvs k,Rd H a (.dK kvs)/\y=kV k/\r=G_ kvs k)\/False
def akV(H:Hp)(a:Addr)(y v:V)(H':Hp):Prop :=
 (∃kvs k,H a=some (.dK kvs)/\y=kV k/\kvs.length<sizeLine/\H'=upd H a (.dK (putK kvs k v)))\/False
def Dj.k{H:Hp}{a:Addr}{kvs:List (Key×V)}{k:Key}(e:H a=some (.dK kvs)):Dj H a (kV k) (G_ kvs k):=.inl ⟨kvs,k,.inl e,rfl,rfl⟩
section
variable{X:Cx}{aa:Γ}{σ:St}{H:Hp}{s:Shared}{a:Addr}{y v:V}{u r:Value}{o:Option V}{A:Around}{E:Β}
def Inv.big(I:Inv X aa σ H s):sysModules<s.heap.objs.size:=by
 have h:mainGlobals<s.heap.objs.size:=(I.mod.glob.keeps I.bk).lt;exact Ts (by decide) h
def W5{Q:Β}(hu:A.units+1<cLine)(I:Inv X aa σ H s)(g:Dj H a y (some v))(ry:RelV y u)(h:∀w' s',Inv X aa σ H s'->RelV v w'->Q w' s') :
  wpAny (model X.prog X.w) A (getItem (.ref a) u) Q E s:=by
 rcases g with⟨kvs,k,e,ey,l⟩|hF
 .subst ey;obtain⟨z,hd,vs,rel,dd⟩:=Hi I.hok e;obtain⟨w',hw,fg⟩:=xV.some_of (v:=v) (o:=valueAt vs k) (by rw[l];exact rel.val k);exact wpAny_getItem_of (Qp ry) dd.mapOf hw (h w' _ (I.tok _) fg)
 .exact hF.elim
def al7{Q:Β}(hu:A.units+1<cLine)(I:Inv X aa σ H s)(g:Dj H a y o)(ry:RelV y u)(h:∀s',Inv X aa σ H s'->Q (.bool o.isSome) s') :
  wpAny (model X.prog X.w) A (compareOp .In u (.ref a)) Q E s:=by
 rcases g with⟨kvs,k,e,ey,l⟩|hF
 .subst ey;obtain⟨z,hd,vs,rel,dd⟩:=Hi I.hok e;refine wpAny_in_of (Qp ry) hd dd.mapOf ?_;rw[<- (rel.val k).isSome_eq,<- l];exact h _ (I.tok _)
 .exact hF.elim
def ad7{Q:Β}(hu:A.units+1<cLine)(I:Inv X aa σ H s)(g:Dj H a y o)(ry:RelV y u)(h:∀s',Inv X aa σ H s'->Q (.bool (!o.isSome)) s') :
  wpAny (model X.prog X.w) A (compareOp .NotIn u (.ref a)) Q E s:=by
 rcases g with⟨kvs,k,e,ey,l⟩|hF
 .subst ey;obtain⟨z,hd,vs,rel,dd⟩:=Hi I.hok e;refine wpAny_notIn_of (Qp ry) hd dd.mapOf ?_;rw[<- (rel.val k).isSome_eq,<- l];exact h _ (I.tok _)
 .exact hF.elim
def adJ{h':Heap}{t':Nat}{ob:HO}(I:Inv X aa σ H s)(mu:Mut (H a))(hs:Heap.SameBut a s.heap h')(he:∃q,h'.get? a=some q)(new:eX X.prog X.w (upd H a ob) h' a ob) :
  Inv X aa σ (upd H a ob) { s with heap:=h',toks:=t' } :=
 I.write (x:=a) (e:=a) mu (.inl rfl) (λb q hb z=>(hs.2 b hb).trans z) he new
def ags{P:Program}{w:World}{H':Hp}{h':Heap}{kvs:List (Key×V)}{vs:List (Key×Value)}(z:kvs.length<=sizeLine)(hd:(a==sysModules)=false)(rel:KV kvs vs)(dd:h'.DictOf (jH P w) a vs) :
  eX P w H' h' a (.dK kvs):=⟨z,hd,vs,rel,dd⟩
def Yh{H':Hp}{Q:Unit->Shared->Prop}(hu:A.units+1<cLine)(I:Inv X aa σ H s)(g:akV H a y v H')(ry:RelV y u)(rv:RelV v r)(h:∀s',Inv X aa σ H' s'->Q () s') :
  wpAny (model X.prog X.w) A (setItem (.ref a) u r) Q E s:=by
 rcases g with⟨kvs,k,e,ey,l,eH⟩|hF
 .subst ey eH;obtain⟨z,hd,vs,rel,dd⟩:=ai4 I.hok e;have hz:vs.length<=sizeLine:=by rw[<- rel.length];exact z
  have hl:(putK kvs k v).length<=sizeLine:=by have:=Qh kvs k v;lia
  refine wpAny_setItem_pairs (hsz:=hz) (Qp ry) dd λh' rL hs=>h _ ?_;have he:∃q,h'.get? a=some q:=by obtain⟨q,_,_,hq,_⟩:=rL;exact⟨q,hq⟩
  exact adJ I (by rw[e];exact True.intro) hs he (ags hl hd (rel.put k rv) rL)
 .exact hF.elim
end
def agj(i:Expr):Prop:=∀ov iv,subscripted i false ov iv=operate [ov,iv] (getItem ov iv)
def acu{prog:Program}{w:World}{A:Around}{E:Β}{s:Shared}{env:Env}{ar bu:Expr}{pos:Pos}{T id:String}{Q:Β}
 (hl:typeLookup (.type T) "__getitem__"=pure (some (.builtin id)))(hs:agj bu)
 (h:wpAny (model prog w) A (eval ar env) (λo s₁=>wpAny (model prog w) A (eval bu env) (λi s₂=>s₂.TypeIs o T/\wpAny (model prog w) A (getItem o i) Q E s₂) E s₁) E s) :
  wpAny (model prog w) A (eval (.Subscript ar bu pos) env) Q E s:=by
 refine Subscript_ (wpAny_mono h (λo s₁ h₁=>wpAny_mono h₁ (λi s₂ h₂=>?_) λ_ _ x=>x) λ_ _ x=>x);obtain⟨hT,h₂⟩:=h₂;unfold subscriptTail;refine ZU ?_;rw[getitemInPython_of_ne hT.not_modules];refine ZU (wpAny_specialOf hT hl ?_);have aS:wpAny (model prog w) A (subscripted bu false o i) (λr s₃=>wpAny (model prog w) A (letTemporaryGo ar o r >>= λ_=>pure r) Q E s₃) E s₂:=by
  rw[hs o i];exact wpAny_operating (wpAny_mono h₂ (λr s₃ h₃=>ZU (wpAny_letTemporaryGo (ZT h₃))) λ_ _ x=>x)
 first
  |exact ZT (ZU aS)
  |exact ZU (ZT (ZU aS))
  |exact ZU aS
def RX{X:Cx}{aa:Γ}{σ:St}{H:Hp}{s:Shared}{a:Addr}{y:V}{o:Option V}(I:Inv X aa σ H s)(g:Dj H a y o):s.TypeIs (.ref a) "dict":=by
 rcases g with⟨kvs,k,e,_,_⟩|hF
 .obtain⟨_,_,vs,_,dd⟩:=Hi I.hok e;exact dd.typeIs
 .exact hF.elim
def ai0(td ty:TE):TE:=λσ H Q=>td σ H λx H1=>ty σ H1 λy H2=>∃a v,x=.ref a/\Dj H2 a y (some v)/\Q v H2
def amc(ty td:TE):TE:=λσ H Q=>ty σ H λy H1=>td σ H1 λx H2=>∃a o,x=.ref a/\Dj H2 a y o/\Q (.bl o.isSome) H2
def aco(ty td:TE):TE:=λσ H Q=>ty σ H λy H1=>td σ H1 λx H2=>∃a o,x=.ref a/\Dj H2 a y o/\Q (.bl (!o.isSome)) H2
def ail(td ty tv:TE):TS:=λD σ H=>tv σ H λv H1=>td σ H1 λx H2=>ty σ H2 λy H3=>∃a H4,x=.ref a/\akV H3 a y v H4/\D.nx σ H4
section
variable{X:Cx}{o i e ar:Expr}{pos ay ax:Pos}{td ty tv:TE}
def adY(hu:X.A.units+1<cLine)(ho:PE X o td)(hi:PE X i ty)(hs:agj i):PE X (.Subscript o i pos) (ai0 td ty):=by
 intro aa s σ H Q I h;refine acu PySem.F.slot_dict_getitem.lookup hs (thn (ho aa s σ H _ I h) λu s1 ⟨x,H1,I1,rx,q1⟩=>thn (hi aa s1 σ H1 _ I1 q1) λiv s2 hP=>?_);obtain⟨y,H2,I2,ry,a,v,ex,g,q2⟩:=hP;subst ex;obtain rfl:u=Value.ref a:=rx;exact⟨RX I2 g,W5 hu I2 g ry λw' s3 I3 fg=>⟨v,H2,I3,fg,q2⟩⟩
def agz(hu:X.A.units+1<cLine)(hi:PE X i ty)(ho:PE X o td):PC X .In i o (amc ty td):=by
 intro aa s σ H Q I h;refine thn (hi aa s σ H _ I h) λiv s1 ⟨y,H1,I1,ry,q1⟩=>thn (ho aa s1 σ H1 _ I1 q1) λu s2 hP=>?_;obtain⟨x,H2,I2,rx,a,ov,ex,g,q2⟩:=hP;subst ex;obtain rfl:u=Value.ref a:=rx;exact al7 hu I2 g ry λs3 I3=>⟨.bl ov.isSome,H2,I3,rfl,q2⟩
def Xr(hu:X.A.units+1<cLine)(hi:PE X i ty)(ho:PE X o td):PC X .NotIn i o (aco ty td):=by
 intro aa s σ H Q I h;refine thn (hi aa s σ H _ I h) λiv s1 ⟨y,H1,I1,ry,q1⟩=>thn (ho aa s1 σ H1 _ I1 q1) λu s2 hP=>?_;obtain⟨x,H2,I2,rx,a,ov,ex,g,q2⟩:=hP;subst ex;obtain rfl:u=Value.ref a:=rx;exact ad7 hu I2 g ry λs3 I3=>⟨.bl (!ov.isSome),H2,I3,rfl,q2⟩
def adx(hu:X.A.units+1<cLine)(ho:PE X o td)(hi:PE X i ty)(hv:PE X ar tv)(hs:swapsWith ar (some (.Subscript o i ay)) pos.line X.env=pure false) :
  PS X (.Assign [.Subscript o i ay] ar pos) (ail td ty tv):=by
 intro aa s σ H D I h;refine wpAny_Assign_Subscript (thn (hv aa s σ H _ I h) λr s1 ⟨v,H1,I1,rv,q1⟩=>thn (ho aa s1 σ H1 _ I1 q1) λu s2 ⟨x,H2,I2,rx,q2⟩=>thn (hi aa s2 σ H2 _ I2 q2) λiv s3 hP=>?_) hs;obtain⟨y,H3,I3,ry,a,H4,ex,g,q3⟩:=hP;subst ex;obtain rfl:u=Value.ref a:=rx;exact Yh hu I3 g ry rv λs4 I4=>⟨σ,H4,I4,q3⟩
end
def aaO{P:Program}{w:World}{H:Hp}(h:Heap)(hb:sysModules<h.objs.size):eX P w H (h.push { cls:=.type "dict",data:=.dict #[] }) h.objs.size (.dK []) :=
 ⟨aZ _,beq_eq_false_iff_ne.mpr (Ne.symm (aQ hb)),[],.nil,Heap.DictOf.new h⟩
def aeX:TE:=λ_ H Q=>∀p,H p=none->Q (.ref p) (upd H p (.dK []))
section
variable{X:Cx}{pos:Pos}
def Zm:PE X (.Dict [] [] pos) aeX:=λaa s σ H Q I h =>
 wpAny_Dict_empty ⟨.ref s.heap.objs.size,_,I.laid (a:=s.heap.objs.size) (o:=.dK []) (t':=s.toks) (λ_ _ q=>aH _ q) (aG _) (aaO s.heap I.big),rfl,h _ (I.hok.fresh (aG _))⟩
end
structure M1(X:Cx)(o:Expr)(m:Str)(ag:Pos)(e:Expr)(af:Pos):Prop where
 base:zt X o m
 few:((backTo af (starEach [e] X.env)).all (λx=>!x.1)&&(backToKw af (keywordEach [] X.env)).all (λx=>x.1.isSome)
  && decide (([e] : List Expr).length+([] : List Keyword).length+(if([] : List Keyword).isEmpty then 0 else 1)<30))=true
 line:zD ag af
 trees:backTo af (starEach [e] X.env)=[(false,eval e X.env)]
structure M2(X:Cx)(o:Expr)(m:Str)(ag:Pos)(e f:Expr)(af:Pos):Prop where
 base:zt X o m
 few:((backTo af (starEach [e,f] X.env)).all (λx=>!x.1)&&(backToKw af (keywordEach [] X.env)).all (λx=>x.1.isSome)
  && decide (([e,f] : List Expr).length+([] : List Keyword).length+(if([] : List Keyword).isEmpty then 0 else 1)<30))=true
 line:zD ag af
 trees:backTo af (starEach [e,f] X.env)=[(false,eval e X.env),(false,eval f X.env)]
def IsD(H:Hp)(a:Addr):Prop:=(∃kvs,Rd H a (.dK kvs))\/False
def afb{X:Cx}{aa:Γ}{σ:St}{H:Hp}{s:Shared}{a:Addr}(I:Inv X aa σ H s)(d:IsD H a) :
  s.TypeIs (.ref a) "dict"/\(∀b,Value.ref a=.ref b->∃ob,s.heap.get? b=some ob/\ob.dict=none)/\(a==sysModules)=false:=by
 rcases d with⟨kvs,e⟩|hF
 .obtain⟨_,hd,vs,_,dd⟩:=Hi I.hok e;refine⟨dd.typeIs,λb q=>?_,hd⟩;cases q;obtain⟨ob,_,_,h1,h2,_⟩:=dd;exact⟨ob,h1,h2.2.1⟩
 .exact hF.elim
section
variable{X:Cx}{aa:Γ}{σ:St}{H:Hp}{s:Shared}{a:Addr}{y d:V}{u r:Value}{o:Option V}{A:Around}{E:Β}
def afs{Q:Β}(hu:A.units+1<cLine)(I:Inv X aa σ H s)(g:Dj H a y o)(ry:RelV y u)(rd:RelV d r)(h:∀w' s',Inv X aa σ H s'->RelV (o.getD d) w'->Q w' s') :
  wpAny (model X.prog X.w) A (call (.builtin "dict.get") [.ref a,u,r]) Q E s:=by
 rcases g with⟨kvs,k,e,ey,l⟩|hF
 .subst ey;obtain⟨z,hd,vs,rel,dd⟩:=Hi I.hok e;refine call_meetsIn PySem.F.slot_dict_get dd.typeIs PySem.F.entry_dict_get (PySem.F.args_dict_get_3 _ _ _) (meets_dict_get_default (jH X.prog X.w) a (Qp ry) hd r) ⟨_,dd.mapOf,h _ _ (I.tok _) ?_⟩;rw[l];exact(rel.val k).getD rd
 .exact hF.elim
end
def afU(td ty tx:TE):TE:=λσ H Q=>td σ H λx H1=>∃a,x=.ref a/\IsD H1 a/\ty σ H1 λy H2=>tx σ H2 λz H3=>∃o,Dj H3 a y o/\Q (o.getD z) H3
section
variable{X:Cx}{o e f:Expr}{ag af:Pos}{td ty tx:TE}
def abS(hu:X.A.units+1<cLine)(ho:PE X o td)(he:PE X e ty)(hf:PE X f tx)(m:M2 X o "get" ag e f af):PE X (.Call (.Attribute o "get" ag) [e,f] [] af) (afU td ty tx):=by
 intro aa s σ H Q I h;refine wpAny_Call_method m.base m.few m.line PySem.F.plainAttrs_dict PySem.F.slot_dict_get PySem.F.type_dict_get (thn (ho aa s σ H _ I h) λu s1 hP=>?_);obtain⟨x,H1,I1,rx,a,ex,d,q1⟩:=hP;subst ex;obtain rfl:u=Value.ref a:=rx;obtain⟨t1,t2,_⟩:=afb I1 d;refine⟨t1,t2,?_⟩;rw[m.trees];refine Calls.callWith_builtin rfl (Calls.evalArgs_plain (Calls.spliced_cons (thn (he aa s1 σ H1 _ I1 q1) λiv s2 ⟨y,H2,I2,ry,q2⟩ =>
  Calls.spliced_cons (thn (hf aa s2 σ H2 _ I2 q2) λfv s3 ⟨z,H3,I3,rz,ov,g,q3⟩=>Calls.spliced_nil ?_))))
 exact afs hu I3 g ry rz λw' s4 I4 fg=>⟨_,H3,I4,fg,q3⟩
end
def Itk(a:Addr)(o:Obj)(kvs:List (Key×V)):It:=⟨λi H=>H a=some (.frz o (.dK kvs))/\i<kvs.length,λi H v H'=>H'=H/\∃k y,kvs[i]?=some (k,y)/\v=kV k,λi H=>H a=some (.frz o (.dK kvs))/\i=kvs.length⟩
def ahP{P:Program}{w:World}{k:Key}{u:Value}(h:(jH P w).is k u=true):RelV (kV k) u:=by
 have h:Az k u=true:=h;cases k with
 |inl i =>
  cases u<;>simp[Az,Value.isInt]at h
  .subst h;exact⟨_,rfl⟩
 |inr x =>
  cases u<;>simp[Az,Value.isStrOf]at h
  .subst h;exact⟨_,rfl⟩
def KV.at{κ:Type}{kvs:List (κ×V)}{vs:List (κ×Value)}(r:KV kvs vs):∀{i:Nat}{k:κ}{y:V},kvs[i]?=some (k,y)->∃u,vs[i]?=some (k,u)/\RelV y u:=by
 unfold KV at r
 induction r with
 |nil=>intro i k y h;cases h
 |@cons p q ps qs h t ih =>
  intro i k y e;cases i with
  |zero =>
   rw[List.getElem?_cons_zero]at e;cases e;obtain⟨q1,q2⟩:=q;obtain⟨h1,h2⟩:=h;cases h1;exact⟨q2,rfl,h2⟩
  |succ i =>
   rw[List.getElem?_cons_succ]at e ⊢;exact ih e
def Xm{P:Program}{w:World}{K:Frag}{tg:Expr}(it a:Addr)(o:Obj)(kvs:List (Key×V))(vs:List (Key×Value))(ep:Nat)(rel:KV kvs vs)(hD:∀h:Heap,h.get? a=some o->h.DictAt (jH P w) a vs ep) :
  Turn P w K tg (Itk a o kvs) [it] it (λi h=>h.IsKeyIter it a i vs.length ep) where
 mem:=by simp
 obj:=λi h st b hb=>by
  have e:b=it:=by simpa using hb
  subst e;obtain⟨o,ho,_,hd⟩:=st;exact⟨o,ho,λv z=>by rw[hd]at z;cases z⟩
 keep:=λi h h' st k=>let⟨o,ho,r⟩:=st;⟨o,k it (by simp) o ho,r⟩
 item:=by
  intro X hP hw hK hc i aa s σ H E I hf st hg;subst hP hw hK;obtain⟨hg,eL⟩:=hg;obtain⟨ho,_⟩:=(show eX X.prog X.w H s.heap a (.frz o (.dK kvs))from I.hok a _ hg);obtain⟨f0,f1,f2,f3,f4,f5⟩:=hf it (by simp);obtain⟨⟨k,y⟩,hx⟩ : ∃p,kvs[i]?=some p:=⟨kvs[i],by simp[eL]⟩;obtain⟨u,hu,ru⟩:=rel.at hx;refine wpAny_pyNext_dict_item st (hD _ ho) hu λcK h' ir dk sb=>?_;have I1:Inv X aa σ H { s with heap:=h' }:=I.turned (t':=s.toks) (λb ob hb e=>(sb.2 b hb).trans e) f0 f1 f3 f4 f5;obtain⟨oi,e,c,d⟩:=id dk;exact⟨cK,rfl,Rf (s:={ s with heap:=h' }) e c d (by decide) ⟨kV k,H,I1,ahP ir,⟨rfl,k,y,hx,rfl⟩,dk,λb hb=>(hf b hb).1⟩⟩
 done:=by
  intro X hP hw hK hc i aa s σ H E I hf st hg;subst hP hw hK;obtain⟨hg,rfl⟩:=hg;obtain⟨ho,_⟩:=(show eX X.prog X.w H s.heap a (.frz o (.dK kvs))from I.hok a _ hg);obtain⟨f0,f1,f2,f3,f4,f5⟩:=hf it (by simp);have hl:=rel.length;exact wpAny_pyNext_dict_end (I.ok.hd hc) st (hD _ ho) (by simp;exact WG (Eq.symm hl)) λh' eb=>⟨rfl,I.turned (t':=s.toks) (λb ob hb e=>eb b ob hb e) f0 f1 f3 f4 f5⟩
 self:=λ_ _ _ _ _ st h=>wpAny_pyIter_keyiter st h
section
variable{X:Cx}{tg:Expr}
def aiv(te:TE):TI:=λσ H R=>te σ H λx H1=>∃a kvs,x=.ref a/\H1 a=some (.dK kvs)/\∀o,R (Itk a o kvs) (upd H1 a (.frz o (.dK kvs)))
def adg{l:Expr}{tl:TE}(hl:PE X l tl):PI X tg l (aiv tl):=by
 intro aa s σ H R I h;refine thn (hl aa s σ H _ I h) λv s1 hP=>?_;obtain⟨x,H1,I1,r1,a,kvs,ex,ha,q⟩:=hP;subst ex;cases r1;have ok:=(show eX X.prog X.w H1 s1.heap a (.dK kvs)from I1.hok a _ ha);obtain⟨z,hd,vs,rel,o,es,ep,e,ex,ed,ek,epr,en⟩:=ok;have hD:∀h:Heap,h.get? a=some o->h.DictAt (jH X.prog X.w) a vs ep:=λh e=>⟨o,es,e,ex,ed,ek,epr,en⟩;have I2:Inv X aa σ (upd H1 a (.frz o (.dK kvs))) s1:=by
  have:=I1.write (x:=a) (e:=a) (o:=.frz o (.dK kvs)) (h':=s1.heap) (t':=s1.toks) (by rw[ha];exact True.intro) (.inl rfl) (λb u hb z=>z) ⟨o,e⟩ ⟨e,z,hd,vs,rel,o,es,ep,e,ex,ed,ek,epr,en⟩;exact this
 refine wpAny_pyIter_dict hd (hD _ e) ?_;refine⟨s1.heap.objs.size,[s1.heap.objs.size],_,Itk a o kvs,_,rfl,I2.kept (t':=s1.toks) λb ob z=>aH _ z,Xm _ a o kvs vs ep rel hD,⟨_,aW _ rfl,rfl,rfl⟩,λb hb=>?_,q o⟩;have e:b=s1.heap.objs.size:=by simpa using hb
 subst e;exact I2.fpOk (aG _) (I2.hok.fresh (aG _))
def tMG(g:TG):TG:=λv σ H Q=>∃R:L2.St->Hp->Prop,g v σ H R/\∀σ' H',R σ' H'->Q σ' H'
def tMT(t:TT):TT:=λσ H Q=>∃R:Bool->Hp->Prop,t σ H R/\∀b H',R b H'->Q b H'
def PG.mono{e:Expr}{g:TG}(h:PG X e g):PG X e (tMG g):=λaa s σ H v u Q I r hP=>by obtain⟨R,h1,h2⟩:=hP;exact thn (h aa s σ H v u R I r h1) λ_ s' hP=>by obtain⟨σ',H',I',q⟩:=hP;exact⟨σ',H',I',h2 σ' H' q⟩
def PTs.mono{aI:List Expr}{t:TT}(h:PTs X aI t):PTs X aI (tMT t):=λaa s σ H Q I hP=>by obtain⟨R,h1,h2⟩:=hP;exact thn (h aa s σ H R I h1) λb s' hP=>by obtain⟨H',I',q⟩:=hP;exact⟨H',I',h2 b H' q⟩
end
structure Ej(K:Frag)(B:Addr)(m:Str)(f:Addr):Prop where
 ga:specialIn K (.ref B) "__getattribute__"=some (some (.builtin "type.__getattribute__"))
 rd:readsIn K B (.type "type")=true
 at_:findCls K (.ref B) (.type "type") m=some (.val (.ref f))
 hd:handedIn (.ref f)=true
 kp:keepIn K (.ref f)=true
section
variable{X:Cx}{k:Nat}{f B:Addr}{fd:FuncData}{ps:Θ}{sp:Sp}{cf:Ε}{ds:Δ}{x m:Str}{p pos ag:Pos}{e:Expr}{es:List Expr}{t:TA}{Ex:Value->Ω->L2.St->Hp->Prop}
def Ej.get{aa:Γ}{σ:L2.St}{H:Hp}{s:Shared}{pl:Sem Bool}{A:Around}{E:Β}{Q:Value×Δ->Shared->Prop}(c:Ej X.K B m f)(I:Inv X aa σ H s)(h:∀t,Q (.ref f,[]) { s with toks:=t }) :
  wpAny (model X.prog X.w) A (getMethod (.ref B) m pl) Q E s :=
 method_cls I.kIn c.ga (cls_value I.kIn c.rd c.at_ c.hd (h _))
def acj{pl:Sem Bool}(c:Ej X.K B m f)(F:dI X.prog X.w X.K X.mg X.base CX0 k f fd ps sp)(hr:dh k X.A)(hg:Gl X x)(hm:X.mg x=some (.ref B))(hb:Binds X.K fd ps [])(ha:PA X (e::es) t)(bz:zk x:=by decide)
 (bj:zb X e es:=by rfl)(aE:zg X pos es:=by rfl)
 (ht:eval (.Call (.Attribute (.Name x p) m ag) (e::es) [] pos) X.env=(do
   let ov <- eval (.Name x p) X.env
   standAt ag.atName
   let(f,first) <- holding [ov] (getMethod ov m pl)
   callWith pos f first (backTo pos (starEach (e::es) X.env)) (backToKw pos (keywordEach [] X.env))):=by rfl) :
  PE X (.Call (.Attribute (.Name x p) m ag) (e::es) [] pos) (Uh sp t):=by
 intro aa s σ H Q I h;refine methodCall_KW (pl:=pl) (ou I hg hm (c.get I λtk=>?_) bz) ht;refine callWith_K (first:=[]) (h₀:=X.base) I.ok.mod.kin c.kp (thn (ha pos aa _ σ H _ (I.tok tk) h) λus s2 ⟨vs,H2,I2,r,q2⟩=>⟨I2.kIn,?_⟩) bj aE;exact Pa (us:=us) (vs:=vs) F hr hb .nil Lf I2 r (by rw[List.append_nil];exact q2)
end
def Same.tup{K:Frag}{H H':Hp}{a:Addr}{xs:Ε}(e:Same H H')(h:SqT K H a xs):SqT K H' a xs:=by
 rcases h with(h|⟨o,h⟩)|h
 .exact .inl (.inl (e _ _ h))
 .exact .inl (.inr ⟨o,e _ _ h⟩)
 .exact .inr h
mutual
inductive jj(K:Frag)(H:Hp):V->PyData->Prop
 |non:jj K H .non .none
 |bl (b:Bool):jj K H (.bl b) (.bool b)
 |int (i:Int):jj K H (.int i) (.int i)
 |str (x:Str):jj K H (.str x) (.str x)
 |lst {a:Addr}{xs:Ε}{ds:List PyData} : H a=some (.lst xs)->fH K H xs ds->jj K H (.ref a) (.list ds)
 |tup {a:Addr}{xs:Ε}{ds:List PyData} : SqT K H a xs->fH K H xs ds->jj K H (.ref a) (.tuple ds)
inductive fH(K:Frag)(H:Hp):Ε->List PyData->Prop
 |nil:fH K H [] []
 |cons {x:V}{xs:Ε}{d:PyData}{ds:List PyData} : jj K H x d->fH K H xs ds->fH K H (x::xs) (d::ds)
end
mutual
theorem jj.same{K:Frag}{H H':Hp}(S:Same H H'):∀{x:V}{d:PyData},jj K H x d->jj K H' x d
 |_,_,.non=>.non
 |_,_,.bl b=>.bl b
 |_,_,.int i=>.int i
 |_,_,.str x=>.str x
 |_,_,.lst e h=>.lst (S _ _ e) (fH.same S h)
 |_,_,.tup e h=>.tup (S.tup e) (fH.same S h)
theorem fH.same{K:Frag}{H H':Hp}(S:Same H H'):∀{xs:Ε}{ds:List PyData},fH K H xs ds->fH K H' xs ds
 |_,_,.nil=>.nil
 |_,_,.cons h t=>.cons (jj.same S h) (fH.same S t)
end
section
variable{X:Cx}{aa:Γ}{σ:L2.St}{H:Hp}{s:Shared}
mutual
theorem Inv.readsK(I:Inv X aa σ H s):∀{x:V}{d:PyData}{v:Value},jj X.K H x d->RelV x v->∃as,Reads s.heap v d as
 |_,_,_,.non,r=>by cases r;exact⟨_,.none⟩
 |_,_,_,.bl b,r=>by cases r;exact⟨_,.bool b⟩
 |_,_,_,.int i,r=>by obtain⟨t,rfl⟩:=r;exact⟨_,.int i t⟩
 |_,_,_,.str x,r=>by obtain⟨t,rfl⟩:=r;exact⟨_,.str x t⟩
 |_,_,_,.lst e h,r=>by
  cases r;obtain⟨its,rv,⟨o,ho,hc,n,hd⟩⟩:=I.lstIs e;obtain⟨as,q⟩:=Inv.readsAllK I h rv;exact⟨_,.list ho hc hd q⟩
 |_,_,_,.tup e h,r=>by
  cases r;obtain⟨its,rv,⟨o,ho,hc,n,hd⟩,_⟩:=I.tuple e;obtain⟨as,q⟩:=Inv.readsAllK I h rv;exact⟨_,.tuple ho hc hd q⟩
theorem Inv.readsAllK(I:Inv X aa σ H s):∀{xs:Ε}{ds:List PyData}{vs:Δ},fH X.K H xs ds->Vals xs vs->∃as,ReadsAll s.heap vs ds as
 |_,_,_,.nil,r=>by cases r;exact⟨_,.nil⟩
 |_,_,_,.cons h t,r=>by
  cases r with
  |cons r1 r2 =>
   obtain⟨a,q1⟩:=Inv.readsK I h r1;obtain⟨b,q2⟩:=Inv.readsAllK I t r2;exact⟨_,.cons q1 q2⟩
end
def af9(K:Frag)(neg:Bool):R2:=λx y H Q=>∃d e,jj K H x d/\jj K H y e/\SeqAt.shaped d=true/\SeqAt.shaped e=true/\Q (.bl (if neg then !PyData.eqv d e else PyData.eqv d e)) H
def agQ(hu:X.A.units+64<cLine):OpR X (compareOp .Eq) (af9 X.K false):=by
 intro aa s σ H x y v u Q I rx ry h;obtain⟨d,e,hd,he,sd,se,q⟩:=h;obtain⟨as,ra⟩:=I.readsK hd rx;obtain⟨bs,rb⟩:=I.readsK he ry;exact SeqAt.compareEq_shaped ra rb sd se hu ⟨.bl _,H,I,rfl,q⟩
def afZ(hu:X.A.units+64<cLine):OpR X (compareOp .NotEq) (af9 X.K true):=by
 intro aa s σ H x y v u Q I rx ry h;obtain⟨d,e,hd,he,sd,se,q⟩:=h;obtain⟨as,ra⟩:=I.readsK hd rx;obtain⟨bs,rb⟩:=I.readsK he ry;exact SeqAt.compareNe_shaped ra rb sd se hu ⟨.bl _,H,I,rfl,q⟩
end
section
variable{X:Cx}
def acQ(K:Frag):Ε->Hp->VK->Prop:=λxs H Q=>∃p T ys,xs=[.ref p,.ty T]/\T∈["bool","int","str","list","tuple","dict"]/\SqT K H p ys/\Q (.bl (Ml "tuple" T)) H
def Sx:jq X (.builtin "isinstance") (acQ X.K):=by
 intro aa s σ H xs us Q I r h;obtain⟨p,T,ys,rfl,hT,hp,q⟩:=h;obtain⟨u,v,rfl,ru,rv⟩:=r.two;cases ru;cases rv;obtain⟨its,rvs,⟨o,ho,hc,n,hd⟩,_⟩:=I.tuple hp;refine kia_one (kitx_tuple (a:=p)) I.kIn ⟨o,ho,hc⟩ (Wj (K:=X.K) (t:="tuple") (by decide) hT) (λz=>nomatch z) λtk=>⟨.bl _,H,I.tok _,rfl,q⟩
end
def OkI(P:Program)(w:World)(K:Frag)(mg:Str->Ψ)(base:Heap)(CX:CXT)(k:Nat)(f:Addr)(ps:Θ)(sp:Sp):Prop:=∃fd,dI P w K mg base CX k f fd ps sp/\Binds K fd ps []
def vL(K:Frag)(x ah:Str)(st:Stmt)(ps:Θ)(f:Addr):Prop:=∃fd,Fun K x ah st f fd/\∀us:Δ,us.length=ps.length->bindArgs fd ⟨us,[]⟩=pure (ps.zip us)
def vL.ok{P:Program}{w:World}{K:Frag}{mg:Str->Ψ}{base:Heap}{CX:CXT}{k:Nat}{x ah:Str}{st:Stmt}{ps:Θ}{f:Addr}{sp:Sp}(h:vL K x ah st ps f)(hf:∀fd,Fun K x ah st f fd->dI P w K mg base CX k f fd ps sp):OkI P w K mg base CX k f ps sp :=
 by obtain⟨fd,a,b⟩:=h;exact⟨fd,hf fd a,.all b⟩
def aee{K:Frag}{x ah:Str}{st:Stmt}{ps:Θ}{f:Addr}{oc:Value}{od an:Ω}{dt:Array (Ψ)}{kV bS pm ai ct:Value}
 (l:K.lookup f=some ⟨oc,od,.func (PySem.W.fnOf x ah (jG st) (eU st) (bF st) .none kV bS pm an ai ct),dt⟩)(c:codeIn K ai ah=true)(k:keepIn K (.ref f)=true)
 (hb:∀(kV bS pm:Value)(an:Ω)(ai ct:Value)(us:Δ),us.length=ps.length->bindArgs (PySem.W.fnOf x ah (jG st) (eU st) (bF st) .none kV bS pm an ai ct) ⟨us,[]⟩=pure (ps.zip us)):vL K x ah st ps f :=
 ⟨_,aal l c k,hb kV bS pm an ai ct⟩
section
variable{X:Cx}{k:Nat}{f C B:Addr}{ps:Θ}{sp:Sp}{x m:Str}{p pos ag:Pos}{e o:Expr}{es:List Expr}{ta:TE}{t:TA}{Ex:Value->Ω->L2.St->Hp->Prop}
def Zu(C:Addr)(m:Str)(sp:Sp)(ta:TE)(t:TA):TE:=λσ H Q=>ta σ H λx H1=>∃a dx fs,x=.ref a/\H1 a=some (.ins C dx fs)/\fs.lookup m=none/\t σ H1 λvs H2=>sp (x::vs) H2 Q E0
abbrev zI(X:Cx):=OkI X.prog X.w X.K X.mg X.base
def Zq{pl:Sem Bool}(he:PE X o ta)(c:Cls X.K C)(hm:Meth X.K C m f)(G:zI X CX0 k f ps sp)(hr:dh k X.A)(ha:PA X (e::es) t)
 (bj:zb X e es:=by rfl)(aE:zg X pos es:=by rfl)
 (ht:eval (.Call (.Attribute o m ag) (e::es) [] pos) X.env=(do
   let ov <- eval o X.env
   standAt ag.atName
   let(f,first) <- holding [ov] (getMethod ov m pl)
   callWith pos f first (backTo pos (starEach (e::es) X.env)) (backToKw pos (keywordEach [] X.env))):=by rfl) :
  PE X (.Call (.Attribute o m ag) (e::es) [] pos) (Zu C m sp ta t):=by
 obtain⟨fd,F,hb⟩:=G;refine(acO (pl:=pl) he.mono c hm F hr hb .nil Lf ha.mono bj aE ht).imp λσ H Q h=>⟨_,h,?_⟩;rintro x H1 ⟨a,dx,fs,h1,h2,h3,h4⟩;refine⟨a,dx,fs,h1,h2,h3,_,h4,λvs H2 q=>?_⟩;show sp (x::(vs++[])) H2 Q E0;rw[List.append_nil];exact q
def YD{pl:Sem Bool}(he:PE X o ta)(c:Cls X.K C)(hm:Meth X.K C m f)(G:zI X CX0 k f ps sp)(hr:dh k X.A)
 (ht:eval (.Call (.Attribute o m ag) [] [] pos) X.env=(do
   let ov <- eval o X.env
   standAt ag.atName
   let(f,first) <- holding [ov] (getMethod ov m pl)
   callWith pos f first (backTo pos (starEach [] X.env)) (backToKw pos (keywordEach [] X.env))):=by rfl) :
  PE X (.Call (.Attribute o m ag) [] [] pos) (Zu C m sp ta af4):=by
 obtain⟨fd,F,hb⟩:=G;refine(ZR (pl:=pl) he.mono c hm F hr hb .nil Lf ht).imp λσ H Q h=>⟨_,h,?_⟩;rintro x H1 ⟨a,dx,fs,h1,h2,h3,h4⟩;exact⟨a,dx,fs,h1,h2,h3,h4⟩
def Z5{D:Addr}{pos:Pos}(hg:Gl X x)(hm:X.mg x=some (.ref D))(hd:zk x:=by decide):PE X (.Name x pos) (tC (.ref D)):=Vq hg hm rfl hd
end
def DG{h:Heap}{o ob:Obj}{b:Addr}(e:(h.push o).get? b=some ob)(hs:b≠h.objs.size):h.get? b=some ob:=by
 obtain⟨e1,e2⟩:=Heap.get?_some_iff.mp e;refine Heap.get?_some_iff.mpr ⟨?_,e2⟩;cases h;simpa[Heap.push,Array.getElem?_push,hs]using e1
section
variable{X:Cx}
theorem Rp:∀{ys:Θ}{vs:Δ},Vals (ys.map V.str) vs->StrsAre vs ys
 |[],_,h=>by cases h;exact .nil
 |y::ys,_,h=>by
  rw[List.map_cons]at h;cases h with
  |cons a b =>
   obtain⟨t,rfl⟩:=a;exact .cons y t (Rp b)
def rJoin:V->Ε->Hp->VK->Prop:=λx vs H Q=>∃a l ys,x=.str a/\vs=[.ref l]/\H l=some (.lst (ys.map V.str))/\(ys.map (·.length)).sum+ys.length*a.length<=16777216/\Q (.str (Txt.join a ys)) H
def adD:MtM X "str.join" rJoin:=by
 intro aa s σ H x vs v us Q I rx rv h;obtain⟨a,l,ys,rfl,rfl,hl,hz,q⟩:=h;obtain⟨t,rfl⟩:=rx;obtain⟨u,rfl,ru⟩:=rv.one;cases ru;obtain⟨_,its,n,r,_,e⟩:=I.lstM hl;exact join_list ⟨_,e,rfl,n,rfl⟩ (by simpa using Rp r) hz λt' k=>⟨.str _,H,I.tok _,⟨_,rfl⟩,q⟩
end
section
variable{X:Cx}{bg iter:Expr}{pos:Pos}{scope:Scope}{wi:TI}{te:TE}
def Zo{ext:Addr->List (Str×Addr)}{fn:Str->Bool}{i0:Nat}{y0:Str}{py cb:Pos}{xs N':Θ}{tg:Expr}{aI:List Expr}{gt:TG}{tc:TT}(E:SN X scope xs ext fn)(hc:X.calm=true)(gy:La xs X.N=N')(ci:scope.kind=.function)(c5:∀y∈scope.names,y.2=.local->scope.names.lookup y.1=some .local)
 (ce:∀y∈scope.names,y.2=.free->X.env.kindOf y.1=some .cell\/X.env.kindOf y.1=some .free)(fq:∀y∈X.N,y∉xs->(relabel scope X.env).names.lookup y≠some .local)(hq:∀y∈X.N,y∈xs->(relabel scope X.env).names.lookup (hid y)=none)(hi:PI X tg iter wi)
 (hg:∀C s₀ H₀ ex pn,PG (X.compE ext fn N' scope xs C s₀ H₀ ex pn) tg gt)(ht:∀C s₀ H₀ ex pn,PTs (X.compE ext fn N' scope xs C s₀ H₀ ex pn) aI tc)(he:∀C s₀ H₀ ex pn,PE (X.compE ext fn N' scope xs C s₀ H₀ ex pn) bg te)(gf:PG X (.Name y0 py) (yO i0))(f':swapsWith (.ListComp bg [⟨tg,iter,aI,0⟩] scope pos) (some (.Name y0 py)) cb.line X.env=pure true)(hs:zh X iter) :
  PS X (.Assign [.Name y0 py] (.ListComp bg [⟨tg,iter,aI,0⟩] scope pos) cb) (ad9 (qg wi xs.length gt tc te) (yO i0)):=by
 intro aa s σ H D0 I h;have h:qg wi xs.length gt tc te σ H (λx H1=>yO i0 x σ H1 D0.nx):=h;rw[exec_Assign_Name_used _ _ _ _ f'];refine ZU (wpAny_standAt (ZU ?_));show wpAny _ X.A (comprehension (.ListComp bg [⟨tg,iter,aI,0⟩] scope pos) scope X.env _ (newList []) false (eval iter X.env) (some (assign (.Name y0 py) X.env)) >>= λ_=>_) _ _ s;refine ZU (wpAny_mono (Lb (use:=some (assign (.Name y0 py) X.env)) (post:=λ_ s'=>SP X aa D0 .next s') E hc gy ci c5 ce fq hq hi hg ht he hs I h λC D Hc s6 m fl kz I6 fC qn=>?_) (λ_ s' hq=>ZT (ZT hq)) λ_ _ e=>e);obtain⟨oc,es,ep,ho,ph,_⟩:=id kz;have I7:=I6.pinned (fp:=[C]) (λb hb=>by rw[YR.mp hb];exact fC) λb hb=>by
  rw[YR.mp hb];exact⟨oc,ho,λv z=>by rw[ph]at z;cases z⟩
 show wpAny _ X.A (assign (.Name y0 py) X.env _) _ _ s6;refine thn (gf _ s6 σ Hc (.ref D) _ D0.nx I7 rfl qn) λ_ s7 hP=>?_;obtain⟨σ7,H7,Z7,q7⟩:=hP;have pn7:=Z7.pin (C,oc) (aP _ (aP _ (pH (by simp) ho)));refine⟨m,kz.at' λo e=>?_,λh' nK=>⟨σ7,H7,Z7.unpinned.turned (it:=C) (h':=h') (t':=s7.toks) (λb o hb e=>(nK.2 b hb).trans e) pn7.2.1 fC.2.1 fC.2.2.2.1 fC.2.2.2.2.1 fC.2.2.2.2.2,q7⟩⟩;rw[ho]at e;cases e;exact pn7.1
end
def dI.wild{P:Program}{w:World}{K:Frag}{mg:Str->Ψ}{base:Heap}{k:Nat}{f:Addr}{fd:FuncData}{ps:Θ}{sp:Sp}(F:dI P w K mg base CX0 k f fd ps sp):dI P w K mg base (CXO P w) k f fd ps sp:=by
 refine⟨F.len,λA outer s H args us vs Q E hr e0 hb r h=>?_⟩;refine codeAny_mono (F.run A outer s H args us vs Q E hr e0 hb r h) λres s' hs=>?_;cases res with
 |error e=>exact False.elim hs
 |ok fl =>
  cases fl with
  |ret u=>exact hs
  |next=>exact hs
  |brk=>exact hs
  |cont=>exact hs
section
variable{X:Cx}{aa:Γ}{σ:L2.St}{H:Hp}{s:Shared}{h':Heap}
def Inv.turnedL{t':Nat}{ch:Φ}(I:Inv X aa σ H s)(k:∀b o,b∉ch->s.heap.get? b=some o->h'.get? b=some o)(hf:∀b∈ch,Ey X aa H b):Inv X aa σ H { s with heap:=h',toks:=t' }:=by
 have ke:∀b u,H b=some u->b∉ch:=λb u e z=>by rw[(hf b z).1]at e;cases e
 refine I.step (g':=s.gens) (d':=s.drawn) (ch:=ch) (λb hb=>⟨(hf b hb).2.2.2.1,(hf b hb).2.1,(hf b hb).2.2.2.2.1,(hf b hb).2.2.2.2.2⟩) (λb o _ _ hc e _=>k b o hc e) (λb o _ _ hc e _=>⟨o.slots,k b o hc e⟩) (λ_ _ _ _ n=>n) (λb o hc e=>⟨o,k b o hc e⟩) (λ_ _ e=>e) (λ_ _ _ e=>e) (λb ps e=>⟨#[],by rw[e];simp⟩) (λm hm=>?_) (λb u e=>?_) I.bare
 .obtain⟨o,es,ep,ho,r⟩:=hm;exact⟨o,es,ep,k _ o (λz=>(hf _ z).2.1 rfl) ho,r⟩
 .refine(I.hok b u e).stay (λc v hc q=>k c v ?_ q) (λ_ q=>q) λ_ _ q=>q;rcases hc with z|z
  .rw[z];exact ke b u e
  .exact ke c _ z
end
def Itz(a b:Addr):It:=⟨λi H=>∃xs ys,H a=some (.lst xs)/\H b=some (.lst ys)/\i<xs.length/\i<ys.length,λi H v H'=>∃xs ys x y t,H a=some (.lst xs)/\H b=some (.lst ys)/\xs[i]?=some x/\ys[i]?=some y/\H t=none/\v=.ref t/\H'=upd H t (.tup [x,y]),λi H=>∃xs ys,H a=some (.lst xs)/\H b=some (.lst ys)/\(xs.length<=i\/ys.length<=i)⟩
def fZ{h g:Heap}{a l:Addr}{i:Nat}(x:h.IsListIter a l i)(k:∀o,h.get? a=some o->g.get? a=some o):g.IsListIter a l i:=by obtain⟨o,e,r⟩:=x;exact⟨o,k o e,r⟩
def yq{xs:Ε}{vs:Δ} : Vals xs vs->∀{i:Nat}{x:V},xs[i]?=some x->∃u,vs[i]?=some u/\RelV x u:=by
 intro h
 induction h with
 |nil=>intro i x e;cases e
 |cons a b ih =>
  intro i x e;cases i with
  |zero=>rw[List.getElem?_cons_zero]at e;cases e;exact⟨_,rfl,a⟩
  |succ i=>rw[List.getElem?_cons_succ]at e ⊢;exact ih e
def Zi{P:Program}{w:World}{K:Frag}{bE:List Expr}{x1}{pos:Pos}(z TI TO i1 i2 l1 l2:Addr)(D:ZipApart z TI TO i1 i2 l1 l2) :
  Turn P w K (.Tuple bE x1 pos) (Itz l1 l2) [z,TI,TO,i1,i2] z (λi h=>IsZip h z TI TO .none/\IsPair h TI (.ref i1) (.ref i2)/\(∃p q,IsPair h TO p q)/\h.IsListIter i1 l1 i/\h.IsListIter i2 l2 i) where
 mem:=by simp
 obj:=by
  rintro i h ⟨s1,s2,⟨p,q,s3⟩,⟨o4,s4,_,d4⟩,⟨o5,s5,_,d5⟩⟩ b hb;simp only[YU,VZ,or_false]at hb;rcases hb with rfl|rfl|rfl|rfl|rfl
  .exact⟨_,s1,λv e=>by cases e⟩
  .exact⟨_,s2,λv e=>by cases e⟩
  .exact⟨_,s3,λv e=>by cases e⟩
  .exact⟨_,s4,λv e=>by rw[d4]at e;cases e⟩
  .exact⟨_,s5,λv e=>by rw[d5]at e;cases e⟩
 keep:=λi h h' ⟨s1,s2,⟨p,q,s3⟩,s4,s5⟩ k=>⟨k z (by simp) _ s1,k TI (by simp) _ s2,⟨p,q,k TO (by simp) _ s3⟩,fZ s4 (k i1 (by simp)),fZ s5 (k i2 (by simp))⟩
 item:=by
  intro X hP hw hK hc i aa s σ H E I hf st hg;subst hP hw hK;obtain⟨s1,s2,⟨p,q,s3⟩,s4,s5⟩:=st;obtain⟨xs,ys,ha,hb,km,mI⟩:=hg;obtain⟨_,dm,n1,eT,le1,g1⟩:=I.lstM ha;obtain⟨_,f8,n2,i5,kX,g2⟩:=I.lstM hb;have ex:xs[i]?=some xs[i]:=aj km;have ey:ys[i]?=some ys[i]:=aj mI;obtain⟨u,hu,ru⟩:=yq eT ex;obtain⟨v,hv,rv⟩:=yq i5 ey;refine wpAny_pyNext_zip_item D s1 s2 s3 s4 s5 (xs:=dm.toArray) (ys:=f8.toArray) ⟨_,g1,rfl,n1,rfl⟩ ⟨_,g2,rfl,n2,rfl⟩ (x:=u) (y:=v) (by simpa using hu) (by simpa using hv) λh' a1 a2 a3 a4 a5 a6 a7=>⟨_,rfl,?_⟩;refine wpAny_letOwnedTupleGo_zip a1 λh2 fA sb=>?_;have nt:H s.heap.objs.size=none:=I.fresh;have I1:=I.laid (a:=s.heap.objs.size) (o:=.tup [xs[i],ys[i]]) (h':=s.heap.push { cls:=.type "tuple",data:=.seq #[u,v] }) (t':=s.toks) (λb q z=>aH _ z) (aG _)
   ⟨(by show 2<=sizeLine;decide),[u,v],.cons ru (.cons rv .nil),_,aW _ rfl,rfl,_,rfl⟩
  have nz:z≠s.heap.objs.size:=aQ (aK s1);have nO:TO≠s.heap.objs.size:=aQ (aK s3);have nI:TI≠s.heap.objs.size:=aQ (aK s2);have mE:i1≠s.heap.objs.size:=by obtain⟨o,e,_⟩:=s4;exact aQ (aK e)
  have n2':i2≠s.heap.objs.size:=by obtain⟨o,e,_⟩:=s5;exact aQ (aK e)
  have gX:∀b∈[z,TI,TO,i1,i2],upd H s.heap.objs.size (.tup [xs[i],ys[i]]) b=none:=by
   intro b hb;have f0:=(hf b hb).1;simp only[YU,VZ,or_false]at hb;rcases hb with rfl|rfl|rfl|rfl|rfl
   .exact(bO nz).trans f0
   .exact(bO nI).trans f0
   .exact(bO nO).trans f0
   .exact(bO mE).trans f0
   .exact(bO n2').trans f0
  have I2:=I1.turnedL (ch:=[z,TO,i1,i2]) (h':=h2) (t':=s.toks) (λb ob hb e=>by
   simp only[YU,VZ,or_false,not_or]at hb;obtain⟨b1,b2,b3,b4⟩:=hb;refine(sb.2 b b1).trans ?_;by_cases hs:b=s.heap.objs.size
   .subst hs;have e2:=aW s.heap (o:={ cls:=.type "tuple",data:=.seq #[u,v] }) rfl;have e:(s.heap.push { cls:=.type "tuple",data:=.seq #[u,v] }).get? s.heap.objs.size=some ob:=e;rw[e2]at e;cases e;exact a5
   .exact a7 b _ b1 b2 b3 b4 (DG e hs)) λb hb=>by
    have cx:b∈[z,TI,TO,i1,i2]:=by
     simp only[YU,VZ,or_false]at hb ⊢;rcases hb with h|h|h|h<;>simp[h]
    exact⟨gX b cx,(hf b cx).2⟩
  have mv:∀c o,c≠z->h'.get? c=some o->h2.get? c=some o:=λc o n e=>(sb.2 c n).trans e;exact⟨.ref _,_,I2,rfl,⟨xs,ys,_,_,_,ha,hb,ex,ey,nt,rfl,rfl⟩,⟨fA,mv _ _ D.TIz (a7 _ _ D.TIz D.TITO D.TIi1 D.TIi2 s2),⟨_,_,mv _ _ D.TOz a2⟩,fZ a3 λo e=>mv _ _ D.i1z e,fZ a4 λo e=>mv _ _ D.i2z e⟩,gX⟩
 done:=by
  intro X hP hw hK hc i aa s σ H E I hf st hg;subst hP hw hK;obtain⟨s1,s2,⟨p,q,s3⟩,s4,s5⟩:=st;obtain⟨xs,ys,ha,hb,lt⟩:=hg;obtain⟨_,dm,n1,eT,le1,g1⟩:=I.lstM ha;obtain⟨_,f8,n2,i5,kX,g2⟩:=I.lstM hb;refine wpAny_pyNext_zip_end (I.ok.hd hc) D s1 s2 s3 s4 s5 (xs:=dm.toArray) (ys:=f8.toArray) ⟨_,g1,rfl,n1,rfl⟩ ⟨_,g2,rfl,n2,rfl⟩ (by simp;lia) λh' k=>⟨rfl,I.turnedL (ch:=[z,TO,i1,i2]) (t':=s.toks) (λb ob hb e=>?_) λb hb=>?_⟩
  .simp only[YU,VZ,or_false,not_or]at hb;exact k b ob hb.1 hb.2.1 hb.2.2.1 hb.2.2.2 e
  .exact hf b (by
    simp only[YU,VZ,or_false]at hb ⊢;rcases hb with h|h|h|h<;>simp[h])
 self:=λ_ _ _ _ _ ⟨s1,_⟩ h=>wpAny_pyIter_zip s1 h
section
variable{X:Cx}
def Xa(n l1 l2:Nat)(h1:l1<n)(h2:l2<n):ZipApart (n+4) (n+2) (n+3) n (n+1) l1 l2:=by
 constructor<;>first|exact aQ (by omega)|exact VW (by lia)
def adX(n b:Nat)(h:b=n+4\/b=n+2\/b=n+3\/b=n\/b=n+1):n<=b:=by lia
def boot_zip:bootBuiltins "zip"=some (.type "zip"):=by decide +kernel
def amW(ta:TA):TI:=λσ H R=>ta σ H λvs H1=>∃a b xs ys,vs=[.ref a,.ref b]/\H1 a=some (.lst xs)/\H1 b=some (.lst ys)/\R (Itz a b) H1
def agT{a b:Expr}{ta:TA}{bE:List Expr}{x1}{p pos ax:Pos}(hg:Gl X "zip")(hm:X.mg "zip"=none)(ha:PA X [a,b] ta)(hs:starEach [a,b] X.env=[(false,eval a X.env),(false,eval b X.env)]:=by rfl)(dv:starEach [b] X.env=[(false,eval b X.env)]:=by rfl) :
  PI X (.Tuple bE x1 ax) (.Call (.Name "zip" p) [a,b] [] pos) (amW ta):=by
 intro aa s σ H R I h;refine Call_ (xg I hg hm boot_zip (PyProof.Rows.callWith_type1 (thn (ha pos aa s σ H _ I h) λus s1 hP=>?_) (by rw[hs,dv]) (by rw[dv];rfl)));obtain⟨vs,H1,I1,r1,q1⟩:=hP;obtain⟨l1,l2,xs,ys,e,h1,h2,q⟩:=q1;subst e;obtain⟨u,v,rfl,ru,rv⟩:=r1.two;cases ru;cases rv;obtain⟨_,dm,n1,eT,le1,g1⟩:=I1.lstM h1;obtain⟨_,f8,n2,i5,kX,g2⟩:=I1.lstM h2;have z1:=aK g1;have z2:=aK g2;refine call_zip_2 (xs:=dm.toArray) (ys:=f8.toArray) ⟨_,g1,rfl,n1,rfl⟩ ⟨_,g2,rfl,n2,rfl⟩ λh' a1 a2 a3 a4 a5 a6 a7=>?_;refine wpAny_pyIter_zip a1 ?_;refine⟨_,[s1.heap.objs.size+4,s1.heap.objs.size+2,s1.heap.objs.size+3,s1.heap.objs.size,s1.heap.objs.size+1],_,Itz l1 l2,H1,rfl,I1.kept (t':=s1.toks) λb ob e=>a7 b ob e,Zi _ _ _ _ _ l1 l2 (Xa _ _ _ z1 z2),⟨a1,a2,⟨_,_,a3⟩,a4,a5⟩,λb hb=>?_,q⟩;have cx:s1.heap.objs.size<=b:=by
  simp only[YU,VZ,or_false]at hb;exact adX _ _ hb
 exact I1.fpOk cx (I1.hok.fresh cx)
end
def rlb(sc scope:Scope):Scope:={ scope with names:=scope.names.map λ(n,k)=>if(k==NameKind.free&&sc.kind == .function&&sc.names.lookup n==some .cell)then(n,NameKind.cell)else(n,k) }
section
variable{X:Cx}
theorem Wt(c:Nat):∀(n:Nat)(acc:Array Nat),((List.replicate n #[c]).foldl (· ++ ·) acc).toList=acc.toList++List.replicate n c
 |0,acc=>by simp
 |n+1,acc=>by
  rw[List.replicate_succ,List.foldl_cons,Wt c n,Array.toList_append,Wp]
  rfl
def ahi:R2:=λx y H Q=>∃c n,x=.str ⟨#[c]⟩/\y=.int n/\1<=n/\n<=1000/\∀z:Str,z.cps.toList=List.replicate n.toNat c->Q (.str z) H
def acR:OpR X (binaryOp .Mult) ahi:=by
 intro aa s σ H x y v u Q I rx ry h;obtain⟨c,n,rfl,rfl,h0,h1,q⟩:=h;obtain⟨t,rfl⟩:=rx;obtain⟨t',rfl⟩:=ry;have hi:(⟨#[c]⟩ : Str).length=1:=rfl;have made:∀z:Str,z.cps.toList=List.replicate n.toNat c->(Made.str z).post (EP X aa σ Q) s:=λz hz=>⟨by
  have:z.length=n.toNat:=by
   show z.cps.size=_;rw[<- Array.length_toList,hz,aN]
  exact aL (show z.length<=1001 by lia) (by decide),.str z,H,I.tok _,⟨_,rfl⟩,q z hz⟩
 refine PySem.P.mul_str ?_ (λ_ _=>?_) (λ_ _=>?_) ?_
 .rw[Zp (by lia),Zp (by lia)];rfl
 .rw[hi];have:1<=(2^63-1:Int)/n:=Int.le_ediv_of_mul_le (by omega) (by lia);lia
 .rw[hi];unfold Builtin.Str.tooLong;exact Zp (by
   have:n.toNat<=1000:=by lia
   have e:1000<=sizeLine:=by decide
   lia)
 .split
  .lia
  .split
   .rename_i hc
    rw[hi]at hc;have e:n.toNat=1:=by
     simp at hc;lia
    refine⟨.str ⟨#[c]⟩,H,I,⟨t,rfl⟩,q _ ?_⟩;rw[e];rfl
   .refine made _ ?_;show((List.replicate n.toNat #[c]).foldl (· ++ ·) #[]).toList=_;rw[Wt];rfl
def OkI.wild{P:Program}{w:World}{K:Frag}{mg:Str->Ψ}{base:Heap}{k:Nat}{f:Addr}{ps:Θ}{sp:Sp}(h:OkI P w K mg base CX0 k f ps sp):OkI P w K mg base (CXO P w) k f ps sp:=by obtain⟨fd,a,b⟩:=h;exact⟨fd,a.wild,b⟩
end
def Cx.compGC(X:Cx)(N':Θ)(scope:Scope)(x0:Str)(C:Addr)(s₀:Shared)(H₀:Hp)(ex:Φ)(pn:Γ):Cx :=
 { X with env:=compEnvC scope ((x0,C+1)::uG X.env.cells scope.names []) C X.env,N:=[x0]++N',s₀:=s₀,H₀:=H₀,outer:=X.stack,ex:=ex,fn:=λz=>z==x0,pn:=pn,xe:=λ_ _=>False }
theorem yV{env:Env}{x0:Str} : ∀{names:List (Str×NameKind)}{y:Str},y≠x0->((names.map λ(n,k)=>if(k==NameKind.free&&env.scope.kind == .function&&env.kindOf n==some .cell)then(n,NameKind.cell)else(n,k)).lookup y=some .cell \/
  (names.map λ(n,k)=>if(k==NameKind.free&&env.scope.kind == .function&&env.kindOf n==some .cell)then(n,NameKind.cell)else(n,k)).lookup y=some .free)->(∀z∈names,z.2=.cell->z.1=x0)->(y,NameKind.free)∈names
 |[],y,_,h,_=>by rcases h with h|h<;>cases h
 |(n,k)::r,y,ny,h,hc=>by
  have ih:=@yV env x0 r y ny;have cm:∀z∈r,z.2=.cell->z.1=x0:=λz hz=>hc z (aJ _ hz);simp only[List.map_cons]at h;by_cases hcond:(k==NameKind.free&&env.scope.kind == .function&&env.kindOf n==some .cell)=true
  .rw[ZY hcond]at h;have hk:k=.free:=by
    simp only[JY,beq_iff_eq]at hcond;exact hcond.1.1
   subst hk;simp only[List.lookup_cons]at h;cases hb:y==n with
   |true=>rw[show y=n by simpa using hb];exact aO
   |false=>rw[hb]at h;exact aJ _ (ih h cm)
  .rw[ZZ hcond]at h;simp only[List.lookup_cons]at h;cases hb:y==n with
   |true =>
    have e:y=n:=by simpa using hb
    rw[hb]at h;rcases h with h|h
    .cases h;exact absurd (e.trans (hc (n,.cell) aO rfl)) ny
    .cases h;rw[e];exact aO
   |false=>rw[hb]at h;exact aJ _ (ih h cm)
def Jw{M:Model}{A:Around}{E:Β}{s:Shared}{scope:Scope}{globals:Addr}{bX:List (Str×Addr)}{ah:Str}{outer:Env}{x0:Str}{Q:Env->Shared->Prop}(gi:∀n acc,cellsFrom n scope.names acc=(x0,n)::acc)(gd:∀h,pushCells h scope.names=h.push { cls:=.type "cell",data:=.cell none })
 (hQ:∀g,g.Ns s.heap.objs.size (λx=>([] : List (Str×Value)).reverse.lookup x)->g.IsCell (s.heap.objs.size+1) none->(∀b o,s.heap.get? b=some o->g.get? b=some o)->Q (newEnv scope s.heap.objs.size globals ((x0,s.heap.objs.size+1)::bX) ah none .none (some outer) builtinsNs) { s with heap:=g,toks:=s.toks+([] : List (Str×Value)).length }) :
  wpAny M A (newFunctionEnv scope globals bX [] ah none .none (some outer)) Q E s:=by
 simp only[newFunctionEnv,Option.isSome_some,if_true];refine ZU (wpAny_alloc ?_);refine ZU (wpAny_layCells _ (λname kind cells=>by cases hkc:kind==NameKind.cell<;>simp[hkc]) _ _ _ _ ?_);rw[gi,gd];have z1:(s.heap.push { cls:=.type "dict",data:=.dict #[] }).objs.size=s.heap.objs.size+1:=Heap.size_push ..;show wpAny _ _ (forIn ([] : List (Str×Value)) _ _ >>= _) _ _ _;rw[List.forIn_nil];refine ZU (ZT (ZT ?_));have c1:=aW (s.heap.push { cls:=.type "dict",data:=.dict #[] }) (o:={ cls:=.type "cell",data:=.cell none }) rfl;rw[z1]at c1;show Q (newEnv scope s.heap.objs.size globals ((x0,(s.heap.push { cls:=.type "dict",data:=.dict #[] }).objs.size)::bX) ah none .none (some outer) builtinsNs) _;rw[z1];exact hQ _ ((Heap.Ns.new s.heap (.type "dict")).at' λo e=>aH _ e) ⟨_,c1,rfl⟩ λb o e=>aH _ (aH _ e)
def V3{x0 y:Str}{d c:Addr}(e : [(x0,d)].lookup y=some c):y=x0/\c=d:=by
 rw[List.lookup_cons]at e;cases hy:y==x0 with
 |true=>rw[hy]at e;cases e;exact⟨by simpa using hy,rfl⟩
 |false=>rw[hy]at e;cases e
def ext1{X:Cx}{scope:Scope}{x0:Str}(gi:∀n acc,cellsFrom n scope.names acc=(x0,n)::acc)(gd:∀h,pushCells h scope.names=h.push { cls:=.type "cell",data:=.cell none })(pS:∀y∈scope.names,y.2=.cell->y.1=x0):SN X scope [x0] (λC=>[(x0,C+1)]) (λz=>z==x0) :=
 ⟨λhQ=>Jw gi gd λg eK iF kg=>hQ g eK (λy c e=>by rw[(V3 e).2];exact iF) kg,λC y c e=>by rw[(V3 e).2];exact X0 _,λC y z c e1 e2=>(V3 e1).1.trans (V3 e2).1.symm,λC y e=>⟨C+1,by rw[beq_iff_eq.mp e];exact List.lookup_cons_self⟩,λC y e=>by
  rw[List.lookup_cons,beq_eq_false_iff_ne.mpr λz=>e (by rw[z];simp)]
  rfl,λC y e=>by
  by_cases ny:y=x0
  .exact .inl ⟨C+1,by rw[ny];exact List.lookup_cons_self⟩
  .exact .inr (yV ny e pS)⟩
def Ite(l:Addr):It:=⟨λi H=>∃xs,H l=some (.lst xs)/\i<xs.length,λi H v H'=>∃xs x t,H l=some (.lst xs)/\xs[i]?=some x/\H t=none/\v=.ref t/\H'=upd H t (.tup [.int i,x]),λi H=>∃xs,H l=some (.lst xs)/\xs.length<=i⟩
def XJ{P:Program}{w:World}{K:Frag}{bE:List Expr}{x1}{pos:Pos}(e it l:Addr)(iq:e≠it) :
  Turn P w K (.Tuple bE x1 pos) (Ite l) [e,it] e (λi h=>(∃old,IsEnum h e it ((i:Nat):Int) old)/\h.IsListIter it l i) where
 mem:=by simp
 obj:=by
  rintro i h ⟨⟨old,s1⟩,⟨o4,s4,_,d4⟩⟩ b hb;simp only[YU,VZ,or_false]at hb;rcases hb with rfl|rfl
  .exact⟨_,s1,λv e=>by cases e⟩
  .exact⟨_,s4,λv e=>by rw[d4]at e;cases e⟩
 keep:=λi h h' ⟨⟨old,s1⟩,s4⟩ k=>⟨⟨old,k e (by simp) _ s1⟩,fZ s4 (k it (by simp))⟩
 item:=by
  intro X hP hw hK hc i aa s σ H E I hf st hg;subst hP hw hK;obtain⟨⟨old,s1⟩,s4⟩:=st;obtain⟨xs,ha,km⟩:=hg;obtain⟨_,dm,n1,eT,le1,g1⟩:=I.lstM ha;have ex:xs[i]?=some xs[i]:=aj km;obtain⟨u,hu,ru⟩:=yq eT ex;refine wpAny_pyNext_enum_item s1 s4 (items:=dm.toArray) ⟨_,g1,rfl,n1,rfl⟩ (x:=u) (by simpa using hu) iq λh' a1 a3 a5 a6 a7=>⟨_,rfl,?_⟩;refine wpAny_letOwnedTupleGo_enum a1 λh2 fA sb=>?_;have nt:H s.heap.objs.size=none:=I.fresh;have I1:=I.laid (a:=s.heap.objs.size) (o:=.tup [.int i,xs[i]]) (h':=s.heap.push { cls:=.type "tuple",data:=.seq #[.int i s.toks,u] }) (t':=s.toks+1) (λb q z=>aH _ z) (aG _)
   ⟨(by show 2<=sizeLine;decide),[.int i s.toks,u],.cons ⟨_,rfl⟩ (.cons ru .nil),_,aW _ rfl,rfl,_,rfl⟩
  have nz:e≠s.heap.objs.size:=aQ (aK s1);have mE:it≠s.heap.objs.size:=by obtain⟨o,e,_⟩:=s4;exact aQ (aK e)
  have gX:∀b∈[e,it],upd H s.heap.objs.size (.tup [.int i,xs[i]]) b=none:=by
   intro b hb;have f0:=(hf b hb).1;simp only[YU,VZ,or_false]at hb;rcases hb with rfl|rfl
   .exact(bO nz).trans f0
   .exact(bO mE).trans f0
  have I2:=I1.turnedL (ch:=[e,it]) (h':=h2) (t':=s.toks+1) (λb ob hb z=>by
   simp only[YU,VZ,or_false,not_or]at hb;obtain⟨b1,b3⟩:=hb;refine(sb.2 b b1).trans ?_;by_cases hs:b=s.heap.objs.size
   .subst hs;have e2:=aW s.heap (o:={ cls:=.type "tuple",data:=.seq #[.int i s.toks,u] }) rfl;have z:(s.heap.push { cls:=.type "tuple",data:=.seq #[.int i s.toks,u] }).get? s.heap.objs.size=some ob:=z;rw[e2]at z;cases z;exact a5
   .exact a7 b _ b1 b3 (DG z hs)) λb hb=>⟨gX b hb,(hf b hb).2⟩
  have mv:∀c o,c≠e->h'.get? c=some o->h2.get? c=some o:=λc o n z=>(sb.2 c n).trans z;exact⟨.ref _,_,I2,rfl,⟨xs,_,_,ha,ex,nt,rfl,rfl⟩,⟨⟨_,by rw[Int.natCast_add];exact fA⟩,fZ a3 λo z=>mv _ _ (λy=>iq y.symm) z⟩,gX⟩
 done:=by
  intro X hP hw hK hc i aa s σ H E I hf st hg;subst hP hw hK;obtain⟨⟨old,s1⟩,s4⟩:=st;obtain⟨xs,ha,lt⟩:=hg;obtain⟨_,dm,n1,eT,le1,g1⟩:=I.lstM ha;have hl:=eT.length;refine wpAny_pyNext_enum_end (I.ok.hd hc) s1 s4 (items:=dm.toArray) ⟨_,g1,rfl,n1,rfl⟩ (by simp;lia) λh' k=>⟨rfl,I.turnedL (ch:=[e,it]) (t':=s.toks) (λb ob hb z=>?_) hf⟩;simp only[YU,VZ,or_false,not_or]at hb;exact k b ob hb.2 z
 self:=λ_ _ _ _ _ ⟨⟨_,s1⟩,_⟩ h=>wpAny_pyIter_enum s1 h
section
variable{X:Cx}
def akM(ta:TA):TI:=λσ H R=>ta σ H λvs H1=>∃a xs,vs=[.ref a]/\H1 a=some (.lst xs)/\R (Ite a) H1
def ado{a:Expr}{ta:TA}{bE:List Expr}{x1}{p pos ax:Pos}(hg:Gl X "enumerate")(hm:X.mg "enumerate"=none)(ha:PA X [a] ta)(hs:starEach [a] X.env=[(false,eval a X.env)]:=by rfl) :
  PI X (.Tuple bE x1 ax) (.Call (.Name "enumerate" p) [a] [] pos) (akM ta):=by
 intro aa s σ H R I h;refine Call_ (xg I hg hm boot_enumerate (PyProof.Rows.callWith_type1 (thn (ha pos aa s σ H _ I h) λus s1 hP=>?_) (by rw[hs];rfl) (by rfl)));obtain⟨vs,H1,I1,r1,q1⟩:=hP;obtain⟨l1,xs,e,h1,q⟩:=q1;subst e;obtain⟨u,rfl,ru⟩:=r1.one;cases ru;obtain⟨_,dm,n1,eT,le1,g1⟩:=I1.lstM h1;refine call_enumerate_list (items:=dm.toArray) ⟨_,g1,rfl,n1,rfl⟩ λh' a1 a2 a3 a7=>?_;refine wpAny_pyIter_enum a1 ?_;refine⟨_,[s1.heap.objs.size+1,s1.heap.objs.size],_,Ite l1,H1,rfl,I1.kept (t':=s1.toks) λb ob e=>a7 b ob e,XJ _ _ l1 (Nat.succ_ne_self _),⟨⟨_,a1⟩,a2⟩,λb hb=>?_,q⟩;have cx:s1.heap.objs.size<=b:=by
  simp only[YU,VZ,or_false]at hb;rcases hb with z|z
  .rw[z];exact Xs _
  .rw[z];exact aG _
 exact I1.fpOk cx (I1.hok.fresh cx)
end
def Bm(i:Int):Prop:=i.natAbs<2^500000
def Bm.bits{i:Int}(h:Bm i):Builtin.Int.intBits i<=2^20:=by
 have e:(2:Nat)^20=1048576:=by decide
 have l:i.natAbs.log2<500000:=by
  by_cases h0:i.natAbs=0
  .rw[h0,Nat.log2_zero];exact UK _
  .exact(Nat.log2_lt h0).mpr h
 unfold Builtin.Int.intBits;split
 .exact aZ _
 .lia
def aec{X:Cx} : OpR X (binaryOp .Mult) (rI (λi j=>Bm i/\Bm j) λi j=>.int (i*j)):=opI λ_ _ _ _ _ _ _ hc q=>mul_int q (.of_bits hc.1.bits hc.2.bits)
section
variable{prog:Program}{w:World}{A:Around}{E:Β}{h:Heap}{g:Array GenState}{d:Drawn}{t:Nat}{os:OsState}{nm q:Str}{C N:Addr}{bs bm lS:Δ}{gh:Bool}{sn:Θ}{sub:Δ}{ab:Bool}{col:Option Bool}{dd:Ω}{k0 k1 k2 k3 k5:Ψ}{B eB fo:String}
abbrev K8(h:Heap)(C:Addr)(us:Δ):Heap:=(h.push { cls:=.type "tuple",data:=.seq us.toArray }).push { cls:=.ref C,data:=.fields #[.ref h.objs.size,.none,.none,.none,.bool false,.none] }
def Ek{us:Δ}(b:Addr)(o:Obj)(e:h.get? b=some o):(K8 h C us).get? b=some o:=aH _ (aH _ e)
def Km(F:ExcBaseFacts B eB fo lS)(T:OwnTail h lS bm){mN:Str->Ψ}{us:Δ}{fI:Addr}{oI:Obj}{Q:Fin->Shared->Prop}(hC:h.get? C=some (excClassObj nm q C N bs bm gh sn sub ab col dd k0 k1 k2 k3 k5 eB))(hn:h.Ns N mN)(hi:mN "__init__"=some (.ref fI))(hf:h.get? fI=some oI)(hc:oI.cls=.type "function")(hl:us.length<=sizeLine)
 (hq:wpAny (model prog w) A (call (.ref fI) (.ref (h.objs.size+1)::us)) (λr s'=>r=.none/\Q (.done (.ret (.ref (h.objs.size+1)))) s') E ⟨K8 h C us,g,d,t,os⟩):wpAny (model prog w) A (Builtin.«type.__call__» ⟨.ref C::us,[]⟩) Q E ⟨h,g,d,t,os⟩:=by
 have K:=Ek (h:=h) (C:=C) (us:=us);have C1:=K _ _ hC;have T1:=T.keeps K;have at_:(K8 h C us).get? (h.objs.size+1)=some { cls:=.ref C,data:=.fields #[.ref h.objs.size,.none,.none,.none,.bool false,.none] }:=by heap_get
 have isC:(Value.ref C::bm).contains (.ref C)=true:=by simp
 repeat (first|with_reducible refine wpAny_loadPart_at hC ?_|with_reducible refine wpAny_madeBy_exc hC ?_|wp_step)
 refine codeAny_call_builtin_code (Code.quiet_builtin _ F.quiet) (wpAny_check_new_subT F T hC (codeAny_exc_new_subT F T hC ?_ hl));show wpAny _ _ _ _ _ _;unfold isInstance
 repeat (first|with_reducible refine wpAny_loadPart_at at_ ?_|(with_reducible refine wpAny_isSubtype_exc C1 ?_;rw[isC])|wp_step)
 show wpAny _ _ (typeLookup (.ref C) _) _ _ _;refine wpAny_typeLookup_tail C1 (hn.keeps K) T1 F.mroIs F.init.lookup ?_;rw[hi];refine wpAny_holding (ZU ?_);unfold bindSpecial;refine ZU (wpAny_typeOf (T:="function") ⟨_,K _ _ hf,hc⟩ ?_);rw[ZY (by decide)];refine ZT (ZU (wpAny_mono hq (λr s' hP=>?_) λ_ _ x=>x));obtain⟨e,z⟩:=hP;subst e
 wp_walk
 exact z
def aaM(F:ExcBaseFacts B eB fo lS)(T:OwnTail h lS bm){mN:Str->Ψ}{us:Δ}{fI:Addr}{oI:Obj}{Q:Β}(hC:h.get? C=some (excClassObj nm q C N bs bm gh sn sub ab col dd k0 k1 k2 k3 k5 eB))(hn:h.Ns N mN)(hi:mN "__init__"=some (.ref fI))(hf:h.get? fI=some oI)(hc:oI.cls=.type "function")(hl:us.length<=sizeLine)
 (hq:wpAny (model prog w) (A.under (.builtin "type.__call__" ⟨.ref C::us,[]⟩)) (call (.ref fI) (.ref (h.objs.size+1)::us)) (λr s'=>r=.none/\Q (.ref (h.objs.size+1)) s') E ⟨K8 h C us,g,d,t,os⟩):wpAny (model prog w) A (call (.ref C) us) Q E ⟨h,g,d,t,os⟩:=by
 have a1:=tc_lookup;have a2:=tc_bind (.ref C);have a3:(⟨h,g,d,t,os⟩ : Shared).TypeIs (.ref C) "type":=⟨_,hC,rfl⟩;refine wpAny_call (codeAny_of_tree ?_);show wpAny _ _ (callAny (.ref C) _) _ _ _
 repeat (any_goals (first|assumption|with_reducible refine wpAny_loadPart_at hC ?_|wp_step))
 exact⟨rfl,codeAny_call_builtin_at (Code.quiet_builtin _ (by decide +kernel)) entry_typeCall (wpAny_check_type_call_sub hC (Km F T hC hn hi hf hc hl hq))⟩
end
def Ng:Δ->Bool
 |.ref _::l=>Ng l
 |l=>l==bmV
def Uw{self:Value}{l:Δ}(h:Ng l=true):refuseLoop self "__setattr__" l=pure ():=by
 induction l with
 |nil=>cases h
 |cons x l ih =>
  cases x with
  |ref C=>rw[refuseLoop_ref];exact ih h
  |type n =>
   have e:Value.type n::l=bmV:=beq_iff_eq.mp h;rw[e];exact PySem.F.store_ValueError.passes self
  |_=>exact absurd (beq_iff_eq.mp h) (by intro z;cases z)
structure X3(K:Frag)(C:Addr):Prop where
 cd:∃cd,clsIn K C=some cd/\cd.hasDict=true/\Ng cd.mro=true
 sa:findIn K (.ref C) "__setattr__"=some (some (.builtin "object.__setattr__"))
 mo:mroIn K C (.type "object")=some true
section
variable{prog:Program}{w:World}{A:Around}{E:Β}{K:Frag}{s:Shared}{x C:Addr}{ox:Obj}{f:Str}{v:Value}{vs:Array Value}
def ad6{Q:Unit->Shared->Prop}(X:K.In s.heap)(S:X3 K C)(n:bZ K C f)(hx:s.heap.get? x=some ox)(hc:ox.cls=.ref C)(hd:ox.dict=none)(hv:ox.data=.fields vs)
 (hq:∀h' t',h'.Ns1 s.heap.objs.size (λy=>if y=f then some v else none)->h'.get? x=some { ox with dict:=some s.heap.objs.size }->(∀b,b≠x->b≠s.heap.objs.size->h'.get? b=s.heap.get? b)->Q () ⟨h',s.gens,s.drawn,t',s.os⟩):wpAny (model prog w) A (setAttr (.ref x) f v) Q E s:=by
 obtain⟨cd,a8,hdi,hm⟩:=S.cd;have J:PySem.W.InstAt s.heap x ox C none:=⟨hx,hc,by unfold notCls;rw[hv],by rw[hd];trivial⟩;have SF:=PySem.F.store_object;refine set_plain X J S.sa ?_;have sub:PySem.W.Looks (model prog w) s.heap (isInstance (.ref x) (.type "object")) true:=J.type.andThen (looks_mroIn X S.mo);have lm:PySem.W.Looks (model prog w) s.heap (mroOf (.ref C)) cd.mro:=(looks_clsIn X a8).andThen .now;generalize gz:({ s with toks:=s.toks+1 } : Shared)=s1;have e1:s1.heap=s.heap:=by rw[<- gz]
 rw[<- e1]at sub lm X J;refine codeAny_call_builtin SF.slot.plain SF.entry (@PySem.W.check_slot (model prog w) _ _ s1 "object.__setattr__" "object" "__setattr__" (.ref x) [.str f s.toks,v] [] _ SF.kind SF.split sub (SF.args (.ref x) (.str f s.toks) v) ?_);rw[PySem.W.osa_eq,refuse_eq];refine ZU (ZU (J.type.here (ZU (lm.here ?_))));rw[Uw hm];refine ZT (ZU (J.type.here (ZU ((looks_findIn X n).here (ZU (ZT ?_))))));have hx1:s1.heap.get? x=some ox:=by rw[e1];exact hx
 obtain⟨oc,odi,oda,dt⟩:=ox;dsimp only at hc hd hv;subst hc hd hv;refine ZU (ZT (ZU (ZU (wpAny_loadPart hx1 (ZU ((looks_clsIn X a8).here ?_))))));rw[hdi,ZZ (by simp),ZZ (by simp[typeHasDict])];have e0:=gz;obtain⟨hp,gg,dr,tk,os⟩:=s1;dsimp only at hx1 e1 ⊢;cases e0;have hxs:x≠s.heap.objs.size:=aQ (aK hx);refine ZU (wpAny_alloc' (ZU (wpAny_update' (aH _ hx) (ZT ?_))));generalize hu:(s.heap.push { cls:=.type "dict",data:=.dict #[] }).update x _=hU;have q1:hU.get? s.heap.objs.size=some { cls:=.type "dict",data:=.dict #[] }:=by
  rw[<- hu];exact(Heap.get?_update_ne _ _ _ _ hxs.symm).trans (Heap.get?_push_at rfl rfl)
 have q2:hU.get? x=some { cls:=.ref C,dict:=some s.heap.objs.size,data:=.fields vs,slots:=dt }:=by
  rw[<- hu];exact Heap.get?_update_self _ (aH _ hx) rfl
 have q3:∀b,b≠x->b≠s.heap.objs.size->hU.get? b=s.heap.get? b:=λb n1 n2=>by
  rw[<- hu];exact(Heap.get?_update_ne _ _ _ _ n1).trans (Heap.get?_push_ne _ _ _ n2)
 dsimp only;unfold Builtin.ObjectAttr.storeInDict Builtin.ObjectAttr.newKeyGuard;refine ZU (ZT (ZU (wpAny_nsSet1 (Heap.Ns1.of_empty ⟨_,#[],_,q1,rfl,λ_ z=>absurd z (by simp),λ_=>rfl⟩) λh' hn hs=>?_)));obtain⟨oD,esD,epD,n9,pi,iL⟩:=hn.count (Within.cons f v Within.nil);refine ZU (wpAny_lookBehind n9 (by rw[pi];exact pastItsLine_dict (aL iL (by rw[List.length_cons,List.length_nil,sizeLine_eq];exact Nat.le_add_left _ _))) ?_)
 wp_walk
 exact hq h' _ hn ((hs.2 x hxs).trans q2) λb n1 n2=>(hs.2 b n2).trans (q3 b n1 n2)
end
structure Jt(K:Frag)(C HE fI:Addr):Prop where
 ex:∃nm qn N bs sn sub ab col dd k0 k1 k2 k3 k5,K.lookup C=some (excClassObj nm qn C N bs (.ref HE::bmV) true sn sub ab col dd k0 k1 k2 k3 k5 "ValueError.__new__")/\nsOkIn K N=true/\nsIn K N "__init__"=some (some (.ref fI))
 he:aft K HE
 fn:∃o,K.lookup fI=some o/\o.cls=.type "function"
 kp:keepIn K (.ref C)=true
def acH{K:Frag}{h:Heap}{N:Addr}{m:Str->Ψ}{n:Str}{v:Value}(X:K.In h)(G:h.Ns N m)(e:nsIn K N n=some (some v)):m n=some v:=by
 obtain⟨o,es,ep,ho,hd,_,hf⟩:=G;rw[<- hf];unfold nsIn at e;split at e
 .rename_i q
  cases(X _ _ q).symm.trans ho;cases hd;unfold nsFind findBy;rw[<- Array.find?_toList];split at e
  .rename_i en he
   cases e;rw[he];rfl
  .split at e<;>cases e
 .cases e
def Jt.obj{K:Frag}{h:Heap}{C HE fI:Addr}(q:Jt K C HE fI)(X:K.In h):∃nm qn N bs sn sub ab col dd k0 k1 k2 k3 k5 mN o,h.get? C=some (excClassObj nm qn C N bs (.ref HE::bmV) true sn sub ab col dd k0 k1 k2 k3 k5 "ValueError.__new__") /\
  h.Ns N mN/\mN "__init__"=some (.ref fI)/\h.get? fI=some o/\o.cls=.type "function"/\OwnTail h bmV (.ref HE::bmV):=by
 obtain⟨nm,qn,N,bs,sn,sub,ab,col,dd,k0,k1,k2,k3,k5,l,a,b⟩:=q.ex;obtain⟨o,lo,ho⟩:=q.fn;obtain⟨bm,N',nm',qn',bs',br,sn',sub',ab',col',rL,k0',k1',k2',k3',k5',mN',hC,hN,hi,T⟩:=adf X q.he;exact⟨nm,qn,N,bs,sn,sub,ab,col,dd,k0,k1,k2,k3,k5,_,o,X _ _ l,.of_isNs (isNs_of_in X a),acH X (.of_isNs (isNs_of_in X a)) b,X _ _ lo,ho,.own hC hN hi .base⟩
abbrev R4(C t:Addr)(d:Ω):Obj:={ cls:=.ref C,dict:=d,data:=.fields #[.ref t,.none,.none,.none,.bool false,.none] }
def XN(a C:Addr)(d:Ω):HO:=.ext λh=>∃t,h.get? a=some (R4 C t d)
def aaL{P:Program}{w:World}{H:Hp}{h:Heap}{a C t:Addr}{d:Ω}(e:h.get? a=some (R4 C t d)):eX P w H h a (XN a C d):=⟨⟨t,e⟩,⟨_,e⟩,λ_ _ ⟨u,z⟩ k=>⟨u,k _ z⟩⟩
def WW{P:Program}{w:World}{H:Hp}{h:Heap}{a C:Addr}{d:Ω}(e:eX P w H h a (XN a C d)):∃t,h.get? a=some (R4 C t d):=e.1
def agA{H:Hp}{a:Addr}{o:HO}(e:H a=some o):upd H a o=H:=by
 funext b;unfold upd;split
 .rename_i z;rw[z,e]
 .rfl
structure abq(K:Frag)(B:Addr):Prop where
 ga:specialIn K (.ref B) "__getattribute__"=some (some (.builtin "type.__getattribute__"))
 rd:readsIn K B (.type "type")=true
 at_:findCls K (.ref B) (.type "type") "__init__"=some (.val (.builtin "ValueError.__init__"))
section
variable{X:Cx}{B C HE fI:Addr}{x:Str}{p pos ag:Pos}{e:Expr}{es:List Expr}{t:TA}{aa:Γ}{σ:L2.St}{H:Hp}{s:Shared}
def init_exc{A:Around}{E:Β}{Q:Β}{a:Addr}{us:Δ}(I:Inv X aa σ H s)(q:Jt X.K C HE fI)(ha:H a=some (XN a C none))(hl:us.length<=sizeLine)
 (h:∀s',Inv X aa σ H s'->Q .none s'):wpAny (model X.prog X.w) A (call (.builtin "ValueError.__init__") (.ref a::us)) Q E s:=by
 obtain⟨nm,qn,N,bs,sn,sub,ab,col,dd,k0,k1,k2,k3,k5,mN,o,hC,hN,hi,hf,oS,T⟩:=q.obj I.kIn;obtain⟨u,hx⟩:=WW (I.hok a _ ha);have F:=PySem.F.excBase_ValueError;obtain⟨hp,gs,dr,tk,os⟩:=s;refine wpAny_call (codeAny_call_builtin F.init.plain F.initEntry (wpAny_check_init_subT F T hC hx rfl ?_))
 wp_walk
 refine h _ ?_;have e1:(hp.push { cls:=.type "tuple",data:=.seq us.toArray }).get? a=some (R4 C u none):=aH _ hx;have J:=I.write (x:=a) (e:=a) (o:=XN a C none) (t':=tk) (h':=(hp.push { cls:=.type "tuple",data:=.seq us.toArray }).update a (Obj.mapFields λx=>x.setIfInBounds 0 (Value.ref hp.objs.size))) (by rw[ha];trivial) (.inl rfl)
  (λb v n z=>(Heap.get?_update_other _ _ (Ne.symm n)).trans (aH _ z)) ⟨_,Heap.get?_update_self _ e1 rfl⟩ (aaL (t:=hp.objs.size) (Heap.get?_update_self _ e1 rfl))
 rwa[agA ha]at J
def afh(C:Addr)(t:TA):TE:=λσ H Q=>t σ H λvs H1=>∃a ws,vs=.ref a::ws/\H1 a=some (XN a C none)/\ws.length<=sizeLine/\Q .non H1
def SM{pl:Sem Bool}(c:abq X.K B)(q:Jt X.K C HE fI)(hg:Gl X x)(hm:X.mg x=some (.ref B))(ha:PA X (e::es) t)(bz:zk x:=by decide)
 (bj:zb X e es:=by rfl)(aE:zg X pos es:=by rfl)
 (ht:eval (.Call (.Attribute (.Name x p) "__init__" ag) (e::es) [] pos) X.env=(do
   let ov <- eval (.Name x p) X.env
   standAt ag.atName
   let(f,first) <- holding [ov] (getMethod ov "__init__" pl)
   callWith pos f first (backTo pos (starEach (e::es) X.env)) (backToKw pos (keywordEach [] X.env))):=by rfl) :
  PE X (.Call (.Attribute (.Name x p) "__init__" ag) (e::es) [] pos) (afh C t):=by
 intro aa s σ H Q I h;refine methodCall_KW (pl:=pl) (ou I hg hm (method_cls I.kIn c.ga (cls_value I.kIn c.rd c.at_ (by decide) ?_)) bz) ht;show wpAny _ _ (callWith pos (.builtin "ValueError.__init__") [] (backTo pos (starEach (e::es) X.env)) []) _ _ _;have h2:=ha pos aa _ σ H _ (I.tok (s.toks+1)) h;rw[bj]at h2 ⊢;refine PySem.W.callWith_of (P:=λ_=>True) (by show((false || (backTo pos (starEach es X.env)).any (·.1)) || false)=false;rw[aE];rfl) (λ_ _=>⟨.machine,.inr (.inl rfl),.now⟩) (Calls.evalArgs_plain (thn h2 λus s2 ⟨vs,H2,I2,r,a,ws,e1,e2,e3,e4⟩=>⟨trivial,?_⟩));subst e1;cases r with
 |cons r1 r2 =>
  cases r1;exact init_exc I2 q e2 (by rw[<- r2.length];exact e3) λs' J=>⟨.non,H2,J,rfl,e4⟩
end
section
variable{X:Cx}{aa:Γ}{σ:L2.St}{H:Hp}{s:Shared}{a C HE fI:Addr}{f:Str}{v:V}{A:Around}{E:Β}
def Xq{u:Value}{Q:Unit->Shared->Prop}(I:Inv X aa σ H s)(e:H a=some (XN a C none))(c:X3 X.K C)(n:bZ X.K C f)(r:RelV v u)
 (h:∀d s',H d=none->d≠a->Inv X aa σ (upd (upd H a (XN a C (some d))) d (.xd [(f,v)])) s'->Q () s'):wpAny (model X.prog X.w) A (setAttr (.ref a) f u) Q E s:=by
 obtain⟨t,ha⟩:=WW (I.hok a _ e);have nd:H s.heap.objs.size=none:=I.hok.fresh (aG _);have na:s.heap.objs.size≠a:=(aQ (aK ha)).symm;refine ad6 I.kIn c n ha rfl rfl rfl λh' t' hn hx ho=>h s.heap.objs.size _ nd na ?_;have J:=I.write (x:=a) (e:=a) (o:=XN a C (some s.heap.objs.size)) (t':=t') (h':=h') (by rw[e];trivial) (.inl rfl) (λb w z q=>(ho b z (aQ (aK q))).trans q) ⟨_,hx⟩ (aaL hx);refine J.track ((bO na).trans nd) (Heap.get?_none_of_le I.sz) (VW I.lt) (λx c q z=>?_) (λp q z=>?_) ⟨_,hn,λg=>?_⟩
 .obtain⟨w,o,q',_⟩:=I.cell x c q;rw[z]at q';exact X2 _ (aK q')
 .have q':=(I.pin p q).1;rw[z]at q';exact X2 _ (aK q')
 .by_cases z:g=f
  .subst z;simp[List.lookup];exact r
  .have:(g==f)=false:=by simp[z]
   simp[List.lookup,this,z]
   trivial
def ahv(K:Frag)(ta tv:TE)(f:Str):TS:=λD σ H=>tv σ H λy H1=>ta σ H1 λx H2=>∃a C,x=.ref a/\H2 a=some (XN a C none)/\X3 K C/\bZ K C f/\∀d,H2 d=none->d≠a->D.nx σ (upd (upd H2 a (XN a C (some d))) d (.xd [(f,y)]))
def WD{o ar:Expr}{ta tv:TE}{pos ay:Pos}(ha:PE X o ta)(hv:PE X ar tv)(hs:swapsWith ar (some (.Attribute o f ay)) pos.line X.env=pure false):PS X (.Assign [.Attribute o f ay] ar pos) (ahv X.K ta tv f):=by
 intro aa s σ H D I h;refine plainObj_wpAny_Assign_Attribute (thn (hv aa s σ H _ I h) λu s1 ⟨y,H1,I1,ry,q⟩=>thn (ha aa s1 σ H1 _ I1 q) λov s2 hP=>?_) hs;obtain⟨x,H2,I2,rx,a,C,ex,ea,c,n,q2⟩:=hP;subst ex;obtain rfl:ov=Value.ref a:=rx;exact Xq I2 ea c n ry λd s3 h1 h2 I3=>⟨σ,_,I3,q2 d h1 h2⟩
def Inv.madeE{us:Δ}(I:Inv X aa σ H s):Inv X aa σ (upd H (s.heap.objs.size+1) (XN (s.heap.objs.size+1) C none)) { s with heap:=K8 s.heap C us } :=
 I.laid (a:=s.heap.objs.size+1) (o:=XN (s.heap.objs.size+1) C none) (h':=K8 s.heap C us) (t':=s.toks) Ek (Xs _) (aaL (t:=s.heap.objs.size) (by heap_get))
def Xn{k:Nat}{fd:FuncData}{ps:Θ}{sp:Sp}{us:Δ}{vs:Ε}{Q:Addr->Hp->Prop}(q:Jt X.K C HE fI)(F:dI X.prog X.w X.K X.mg X.base CX0 k fI fd ps sp)(hr:dh (k+1) X.A)(hb:Binds X.K fd ps [])
 (I:Inv X aa σ H s)(r:Vals vs us)(hl:us.length<=sizeLine)(h:∀x,H x=none->sp (.ref x::vs) (upd H x (XN x C none)) (λv H2=>v=.non/\Q x H2) E0) :
  wpAny (model X.prog X.w) X.A (call (.ref C) us) (λu s'=>∃a H',u=.ref a/\X.s₀.heap.objs.size<=a/\Inv X aa σ H' s'/\Q a H') X.xe s:=by
 obtain⟨nm,qn,N,bs,sn,sub,ab,col,dd,k0,k1,k2,k3,k5,mN,o,hC,hN,hi,hf,oS,T⟩:=q.obj I.kIn;have hq:=h (s.heap.objs.size+1) (I.hok.fresh (Xs _));have I2:=I.madeE (C:=C) (us:=us);have r2:Vals (V.ref (s.heap.objs.size+1)::vs) (Value.ref (s.heap.objs.size+1)::us):=.cons rfl r;have k8:(Value.ref (s.heap.objs.size+1)::us++[]).length=ps.length:=by
  rw[List.append_nil,<- r2.length];exact F.len _ _ _ _ hq
 have cx:=hb _ (Value.ref (s.heap.objs.size+1)::us) I2.kIn k8;rw[List.append_nil]at cx;have sz:=I.sz;obtain⟨hp,g,d,t,os⟩:=s;refine aaM PySem.F.excBase_ValueError T hC hN hi hf oS hl (wpAny_call (codeAny_mono (F.run _ X.stack _ _ ⟨Value.ref (hp.objs.size+1)::us,[]⟩ _ _ _ E0 (hr.make C us []) (I2.env0.make C us []) cx r2 hq) λr s' de=>?_));cases r with
 |error e=>exact Lf aa σ _ _ e s' I2 de
 |ok fl =>
  cases fl with
  |ret u =>
   obtain⟨v,H',I3,rv,ev,q3⟩:=I2.after de;subst ev;exact⟨rv,hp.objs.size+1,H',rfl,Nat.le_succ_of_le sz,I3,q3⟩
  |next=>exact False.elim de
  |brk=>exact False.elim de
  |cont=>exact False.elim de
end
def out(H:Hp)(a:Addr):Hp:=λb=>if b=a then none else H b
def Sy{H:Hp}{a:Addr} : out H a a=none:=by unfold out;rw[ZY rfl]
def xT{H:Hp}{a b:Addr}(n:b≠a):out H a b=H b:=by unfold out;rw[ZZ n]
def RP{H:Hp}{a b:Addr}{o:HO}(e:out H a b=some o):b≠a/\H b=some o:=by
 by_cases z:b=a
 .subst z;rw[Sy]at e;cases e
 .exact⟨z,by rw[xT z]at e;exact e⟩
section
variable{X:Cx}{aa:Γ}{σ:L2.St}{H:Hp}{s:Shared}{a C:Addr}{B h':Heap}{d:Ω}
def Inv.flyMade(I:Inv X aa σ H s)(hx:X.ex=[])(e:H a=some (XN a C d))(sz:X.s₀.heap.objs.size<=a)(hB:B=hideAll (s.heap.hide a) (frs X.stack))(fl:uF B X.outer a (.ref C) d .none h')(up:s.heap.UpToSlots h') :
  Fly X.prog X.w X.outer X.H₀ X.s₀ a (.ref C) (out H a) { s with heap:=h' } B d:=by
 have k4:∀b o,b≠a->s.heap.get? b=some o->b∉frs X.stack->B.get? b=some o:=λb o n q m=>by rw[hB];exact hideAll_get _ ((Heap.hide_ne _ n).trans q) m
 have ni:∀b u,H b=some u->b∉frs X.stack:=λb u q z=>by rw[I.stkFree b z]at q;cases q
 have trk:∀b u o,b≠a->H b=some u->s.heap.get? b=some o->B.get? b=some o:=λb u o n q r=>k4 b o n r (ni b u q);have na:∀b,H b=none->b≠a:=λb q z=>by rw[z,e]at q;cases q
 have nf:∀b∈frs X.stack,∀o,s.heap.get? b=some o->∀vs,o.data≠.fields vs:=λb hb o q=>by
  obtain⟨_,o',e',z⟩:=I.stack.mem hb;rw[q]at e';cases e';exact z
 have hok:HOk X.prog X.w (out H a) h':=λb u q=>by
  obtain⟨n,q⟩:=RP q;refine(I.hok b u q).stay (λc v hc r=>?_) (λc r=>?_) λc xs r=>?_
  .rcases hc with z|z
   .subst z;exact fl.1 c v (trk c u v n q r)
   .exact fl.1 c v (trk c _ v (Hu z e (by intro z;cases z)) z r)
  .rw[xT (Hu r e (by intro z;cases z))];exact r
  .rw[xT (Hu r e (by intro z;cases z))];exact r
 have un:Un (frs X.stack) [a] H (out H a) s.heap h':=by
  refine⟨λb o q n hb _=>fl.1 b o (k4 b o (na b n) q hb),λb o q n hb _=>up b o q (nf b hb o q),λb o _ n _=>by rw[xT (na b n)];exact n,λb o q hb=>?_,λb xs q=>?_,λb o u q=>?_,λb ps q=>⟨#[],?_⟩⟩
  .by_cases m:b∈frs X.stack
   .obtain⟨sl,r⟩:=up b o q (nf b m o q);exact⟨_,r⟩
   .exact⟨o,fl.1 b o (k4 b o (by simpa using hb) q m)⟩
  .rw[xT (Hu q e (by intro z;cases z))];exact q
  .rw[xT (Hu q e (by intro z;cases z))];exact q
  .rw[xT (Hu q e (by intro z;cases z)),q];simp
 have J:Inv X aa σ (out H a) { s with heap:=h' }:=I.call' (s':={ s with heap:=h' }) (ch:=[a]) rfl un hok I.bare λb hb=>by
  obtain rfl:b=a:=by simpa using hb
  exact⟨.inr sz,(λz=>by have:=I.free;rw[<- z,e]at this;cases this),(λx c q z=>by have:=I.freeC x c q;rw[z,e]at this;cases this),(λp hp z=>by have:=(I.pin p hp).2.1;rw[z,e]at this;cases this)⟩
 have lta:∀b o,X.s₀.heap.get? b=some o->b≠a:=λb o q z=>X2 a (aR (z ▸ aK q) sz);refine⟨J.os,J.bare,Heap.get?_none_of_le sz,by have:=J.base;rw[hx]at this;exact this,J.hok,λb hb=>?_,fl,λb o q hb hc=>?_⟩
 .obtain⟨_,o,ho,_⟩:=I.ok.funs.mem hb;exact J.base.free b o ho (I.ok.frf b hb) λz=>I.ok.exfs b z hb
 .have aS:∀v,B.get? b=some v->B.get? b=some o:=λv y=>by
   have e2:=fl.1 b v y;rw[show({ s with heap:=h' } : Shared).heap.get? b=h'.get? b from rfl,e2]at q;cases q;exact y
  rcases hc with⟨u,r⟩|⟨u,r⟩
  .obtain⟨⟨v,z⟩,n⟩:=I.old hx r;exact aS v (k4 b v (lta b u r) z (I.nostk n hb))
  .obtain⟨n,r⟩:=RP r;obtain⟨o',e'⟩:=(I.hok b u r).there;exact aS o' (trk b u o' n r e')
end
def TY(X:Cx)(Ex:Value->Ω->L2.St->Hp->Prop):Prop :=
 ∀aa σ H s a C d,Inv X aa σ H s->H a=some (XN a C d)->X.s₀.heap.objs.size<=a->Ex (.ref C) d σ (out H a)->X.xe (.ref a) s
section
variable{P:Program}{w:World}{K:Frag}{mg:Str->Ψ}{base:Heap}{N:Θ}{ah:Str}{scope:Scope}{f:Addr}{cd:Value}{A:Around}{outer:List Env}{s:Shared}{H:Hp}{E:XK}
def W9:TY (zX (CXO P w) P w K mg base N ah scope f cd A outer s H E) (λC d _ H'=>E C d H'):=by
 intro aa σ H1 s1 a C d I e sz q;show wpAny _ _ (leaving _ (.ref a)) _ _ _;have kC:∀env∈(envOfC ah scope s.heap.objs.size f cd::outer),∀b,env.frame=some b->b∈frs (envOfC ah scope s.heap.objs.size f cd::outer):=λenv he b hb=>List.mem_filterMap.mpr ⟨env,he,hb⟩;obtain⟨t,ha⟩:=WW (I.hok a _ e);have fr:(s1.heap.hide a).FunFrames base (envOfC ah scope s.heap.objs.size f cd::outer):=PySem.W.funFrames_hideAll (as:=[a]) I.stack λenv he b hb z=>by
  obtain rfl:b=a:=by simpa using hb
  have:=I.stkFree b (kC env he b z);rw[e]at this;cases this
 refine Xz (base:=hideAll (s1.heap.hide a) (frs (envOfC ah scope s.heap.objs.size f cd::outer))) (h0:=s1.heap.hide a) (outer:=outer) I.ok.frames rfl (λb o q=>of_hideAll _ q) (PySem.W.funFrames_hide fr kC) (λb o q=>Heap.of_hide q) (Heap.hide_self _ _) ha rfl rfl λh' fl up=>?_;exact⟨a,.ref C,d,out H1 a,_,rfl,I.flyMade rfl e sz rfl fl up,q⟩
end
section
variable{prog:Program}{w:World}{A:Around}{E:Β}{s:Shared}{env:Env}{nm qn:Str}{C N:Addr}{bs bm:Δ}{hd:Bool}{sn:Θ}{sub:Δ}{ab:Bool}{col:Option Bool}{dd:Ω}{k0 k1 k2 k3 k5:Ψ}
def X_{x:Sem Value}{Q:Flow->Shared->Prop}(hb:bm.contains (.type "BaseException")=true)(hh:A.handled=none)
 (h:wpAny (model prog w) A x (λv s1=>∃a t d,v=.ref a/\s1.heap.get? C=some (excClassObj nm qn C N bs bm hd sn sub ab col dd k0 k1 k2 k3 k5 "ValueError.__new__")/\s1.heap.get? a=some (R4 C t d)/\E (.ref a) s1) E s):wpAny (model prog w) A (raiseStmt env (some x) none) Q E s:=by
 have hB:(Value.ref C::bm).contains (.type "BaseException")=true:=by rw[List.contains_cons,hb,Bool.or_true]
 unfold raiseStmt;refine ZU (wpAny_mono h (λv s1 z=>?_) λ_ _ z=>z);obtain⟨a,t,d,rfl,hC,ha,hE⟩:=z;obtain⟨hp,gs,dr,tk,os⟩:=s1
 repeat (first|with_reducible refine wpAny_loadPart_at ha ?_|with_reducible refine wpAny_loadPart_at hC ?_|(with_reducible refine wpAny_isSubtype_exc hC ?_;rw[hB])|wp_step)
 exact wpAny_raiseNew_none hh hE
end
section
variable{X:Cx}{x:Str}{np af pos:Pos}{e₀:Expr}{rest:List Expr}{ta:TA}{C HE fI:Addr}{Ex:Value->Ω->L2.St->Hp->Prop}{k:Nat}{ps:Θ}{sp:Sp}
def acY(C:Addr)(sp:Sp)(Ex:Value->Ω->L2.St->Hp->Prop)(ta:TA):TS:=λ_ σ H=>ta σ H λvs H1=>vs.length<=sizeLine/\∀a,H1 a=none->sp (.ref a::vs) (upd H1 a (XN a C none)) (λv H2=>v=.non/\∃d,H2 a=some (XN a C d)/\Ex (.ref C) d σ (out H2 a)) E0
def Xg(hc:X.calm=true)(hg:Gl X x)(hm:X.mg x=some (.ref C))(q:Jt X.K C HE fI)(G:zI X CX0 k fI ps sp)(hr:dh (k+1) X.A)(hx:TY X Ex)(ha:PA X (e₀::rest) ta)(bz:zk x:=by decide)
 (he:zb X e₀ rest:=by rfl)(aE:zg X af rest:=by rfl) :
  PS X (.Raise (some (.Call (.Name x np) (e₀::rest) [] af)) none pos) (acY C sp Ex ta):=by
 obtain⟨fd,F,hb⟩:=G;intro aa s σ H D I h;obtain⟨nm,qn,N,bs,sn,sub,ab,col,dd,k0,k1,k2,k3,k5,mN,o,hC,hN,hi,hf,oS,T⟩:=q.obj I.ok.mod.kin;rw[arm_exec_Raise];refine ZU (wpAny_standAt (X_ (C:=C) (nm:=nm) (qn:=qn) (N:=N) (bs:=bs) (bm:=.ref HE::bmV) (hd:=true) (sn:=sn) (sub:=sub) (ab:=ab) (col:=col) (dd:=dd) (k0:=k0) (k1:=k1) (k2:=k2) (k3:=k3) (k5:=k5) (T.hasType (by decide)) (I.ok.hd hc) ?_));refine ZU (thn (Q:=λu s1=>∃a H' d,u=.ref a/\X.s₀.heap.objs.size<=a/\Inv X aa σ H' s1/\H' a=some (XN a C d)/\Ex (.ref C) d σ (out H' a)) ?_ λu s1 ⟨a,H',d,e1,e2,I1,e3,e4⟩=>ZU (wpAny_standAt (ZT ?_)))
 .refine wpAny_Call_Name_kw (ou I hg hm ?_ bz);refine callWith_K (h₀:=X.base) I.ok.mod.kin q.kp (thn (ha af aa s σ H _ I h) λus s1 ⟨vs,H1,I1,r,hl,q1⟩=>⟨I1.kIn,?_⟩) he aE;exact thn (Xn (Q:=λa H2=>∃d,H2 a=some (XN a C d)/\Ex (.ref C) d σ (out H2 a)) q F hr hb I1 r (by show us.length<=_;rw[<- r.length];exact hl) q1) λu s2 hP=>by obtain⟨a,H2,e1,e2,I2,d,e3,e4⟩:=hP;exact⟨a,H2,d,e1,e2,I2,e3,e4⟩
 .obtain⟨t,ht⟩:=WW (I1.hok a _ e3);exact⟨a,t,d,e1,I1.bk _ _ hC,ht,hx aa σ H' s1 a C d I1 e3 e2 e4⟩
end
section
variable{prog:Program}{w:World}{A:Around}{E:Β}{h:Heap}{g:Array GenState}{d:Drawn}{t:Nat}{os:OsState}{a C:Addr}{o:Obj}{od:Option Obj}{K:Frag}{f:Str}{u:Value}
def Ux{tk:Tok}{fl b:Bool}{Q:Β}(X:K.In h)(T:S9 K C)(J:PySem.W.InstAt h a o C od)(hx:h.get? a=some o)(hc:o.cls=.ref C)(hf:PySem.W.findObj K C od f=some (.value u))(hh:handedIn u=true)(hq:Q u ⟨h,g,d,t,os⟩) :
  wpAny (model prog w) A (getAttrBy (.ref a) (.str f tk) fl b) Q E ⟨h,g,d,t,os⟩:=by
 have f3:=F.excAttr_ValueError.ga.bind (.ref a);have n2:(Value.builtin "BaseException.__getattribute__"== Value.builtin "object.__getattribute__")=false:=by decide +kernel
 have n1:(onTheHeap (Value.ref C)&&Value.builtin "BaseException.__getattribute__"== Value.builtin "object.__getattribute__")=false:=by rw[n2];exact Bool.and_false _
 have LT:=Aw (M:=model prog w) hx hc;have LG:=looks_findIn (M:=model prog w) X T.ga;have LN:=looks_findIn (M:=model prog w) X T.gn;have LF:=PySem.W.looks_find (M:=model prog w) X J hf
 repeat (any_goals (first|assumption|with_reducible refine LT.at ?_|with_reducible refine LG.at ?_|with_reducible refine LN.at ?_|(with_reducible refine wpAny_loadPart_at hx ?_;rw[hc])|wp_step))
 rw[ZZ (show ¬(b&&onTheHeap (Value.builtin "BaseException.__getattribute__"))=true from by rw[show onTheHeap (Value.builtin "BaseException.__getattribute__")=false from rfl,Bool.and_false];exact bh)]
 repeat (any_goals (first|assumption|wp_step))
 refine codeAny_call_builtin F.excAttr_ValueError.ga.plain F.entry_bexc_ga (MK X T hx hc ?_)
 repeat (any_goals (first|assumption|with_reducible refine LT.at ?_|with_reducible refine LF.at ?_|wp_step))
 show wpAny _ _ (handedOut u) _ _ _;rw[PySem.W.handedOut_of hh];exact ZT hq
end
section
variable{X:Cx}{aa:Γ}{σ:L2.St}{H:Hp}{s:Shared}{a d C:Addr}{fs:List (Str×V)}{f:Str}{v:V}{A:Around}{E:Β}
def YC{b:Bool}{Q:Β}(I:Inv X aa σ H s)(e:H a=some (XO a C (some d)))(ed:H d=some (.xd fs))(c:S9 X.K C)(hh:hasDictIn X.K C=true)(n:bZ X.K C f)(l:fs.lookup f=some v)
 (h:∀u s',Inv X aa σ H s'->RelV v u->Q u s'):wpAny (model X.prog X.w) A (getAttr (.ref a) f b) Q E s:=by
 obtain⟨ox,hx,hc,hd,vs,hv⟩:=(I.hok a _ e).1;obtain⟨mA,hn,r⟩:=I.hok d _ ed;obtain⟨od,ho,hl⟩:=Le hn;obtain⟨u,hu,ru⟩:=xV.some_of (v:=v) (o:=mA f) (by rw[<- l];exact r f);have J:PySem.W.InstAt s.heap a ox C (some od):=⟨hx,hc,by unfold notCls;rw[hv],by rw[hd];exact ho⟩;have I2:=I.tok (s.toks+1);have kI:=I.kIn;obtain⟨hp,g,dr,t,os⟩:=s;unfold getAttr
 repeat (first|exact Ux kI c J hx hc (findObj_own hh n rfl (by rw[hl,hu])) (KN ru) (h u _ I2 ru)|wp_step)
def aeO(K:Frag)(ta:TE)(f:Str):TE:=λσ H Q=>ta σ H λx H1=>∃a C d fs v,x=.ref a/\H1 a=some (XO a C (some d))/\H1 d=some (.xd fs)/\S9 K C/\hasDictIn K C=true/\bZ K C f/\fs.lookup f=some v/\Q v H1
def ab4{e:Expr}{ta:TE}{pos:Pos}(he:PE X e ta)(hb:zt X e f):PE X (.Attribute e f pos) (aeO X.K ta f):=by
 intro aa s σ H Q I h;refine Wv hb (thn (he aa s σ H _ I h) λu s1 hP=>?_);obtain⟨x,H1,I1,rx,a,C,d,fs,v,ex,ea,ed,c,hd,n,l,q⟩:=hP;subst ex;obtain rfl:u=Value.ref a:=rx;exact YC I1 ea ed c hd n l λu' s2 I2 ru=>⟨v,H1,I2,ru,q⟩
end
def fsc{N P:Θ}{sc:Scope}(h1:sc.kind=.function:=by rfl)(h2:sc.isCoroutine=false:=by rfl)(h3:sc.isGenerator=false:=by rfl)(h4:N.Nodup/\(∀x∈P,sc.names.lookup x=some .local\/sc.names.lookup x=some .cell)/\∀y∈sc.names,y.2≠.free:=by decide +kernel)(h5:N.take P.length=P:=by rfl):bK N P sc:=⟨h1,h2,h3,h4.1,h5,h4.2.1,h4.2.2⟩
abbrev CK0(sc scope:Scope)(N N' xs:Θ):Prop:=La xs N=N'/\(∀y∈scope.names,y.2=.local->scope.names.lookup y.1=some .local)/\(∀y∈scope.names,y.2=.free->sc.names.lookup y.1=some .cell\/sc.names.lookup y.1=some .free) /\
 (∀y∈N,y∉xs->(scope.names.map λ(n,k)=>if(k==NameKind.free&&sc.kind == .function&&sc.names.lookup n==some .cell)then(n,NameKind.cell)else(n,k)).lookup y≠some .local)/\∀y∈N,y∈xs->(scope.names.map λ(n,k)=>if(k==NameKind.free&&sc.kind == .function&&sc.names.lookup n==some .cell)then(n,NameKind.cell)else(n,k)).lookup (hid y)=none
abbrev CK(sc scope:Scope)(N N' xs:Θ):Prop:=(∀y∈scope.names,y.2≠.cell)/\CK0 sc scope N N' xs
section
variable{X:Cx}{bg iter tg:Expr}{pos:Pos}{scope:Scope}{wi:TI}{te:TE}{aI:List Expr}{gt:TG}{tc:TT}
def Z1(sc:Scope)(N N' xs:Θ)(hi:PI X tg iter wi)(hg:∀{C s₀ H₀ ex pn},PG (X.compG N' scope xs C s₀ H₀ ex pn) tg gt)(ht:∀{C s₀ H₀ ex pn},PTs (X.compG N' scope xs C s₀ H₀ ex pn) aI tc)(he:∀{C s₀ H₀ ex pn},PE (X.compG N' scope xs C s₀ H₀ ex pn) bg te)
 (cS:X.env.scope=sc:=by rfl)(c8:X.N=N:=by rfl)(hc:X.calm=true:=by rfl)(hk:scope.kind=.function:=by rfl)(h:CK sc scope N N' xs:=by decide +kernel)(hs:zh X iter:=by intro _;rfl):PE X (.ListComp bg [⟨tg,iter,aI,0⟩] scope pos) (qg wi xs.length (tMG gt) (tMT tc) (tM te)) :=
 by
 subst cS c8;exact Rr (akQ hk h.1) hc h.2.1 hk h.2.2.1 h.2.2.2.1 h.2.2.2.2.1 h.2.2.2.2.2 hi (λ_ _ _ _ _=>hg.mono) (λ_ _ _ _ _=>ht.mono) (λ_ _ _ _ _=>he.mono) hs
def abU{i0:Nat}{y0:Str}{py cb:Pos}(sc:Scope)(N N' xs:Θ)(hi:PI X tg iter wi)(hg:∀{C s₀ H₀ ex pn},PG (X.compG N' scope xs C s₀ H₀ ex pn) tg gt)(ht:∀{C s₀ H₀ ex pn},PTs (X.compG N' scope xs C s₀ H₀ ex pn) aI tc)(he:∀{C s₀ H₀ ex pn},PE (X.compG N' scope xs C s₀ H₀ ex pn) bg te)(gf:PG X (.Name y0 py) (yO i0))
 (cS:X.env.scope=sc:=by rfl)(c8:X.N=N:=by rfl)(hc:X.calm=true:=by rfl)(hk:scope.kind=.function:=by rfl)(h:CK sc scope N N' xs:=by decide +kernel)(f':swapsWith (.ListComp bg [⟨tg,iter,aI,0⟩] scope pos) (some (.Name y0 py)) cb.line X.env=pure true:=by rfl)(hs:zh X iter:=by intro _;rfl) :
  PS X (.Assign [.Name y0 py] (.ListComp bg [⟨tg,iter,aI,0⟩] scope pos) cb) (ad9 (qg wi xs.length (tMG gt) (tMT tc) (tM te)) (yO i0)) :=
 by
 subst cS c8;exact Zo (akQ hk h.1) hc h.2.1 hk h.2.2.1 h.2.2.2.1 h.2.2.2.2.1 h.2.2.2.2.2 hi (λ_ _ _ _ _=>hg.mono) (λ_ _ _ _ _=>ht.mono) (λ_ _ _ _ _=>he.mono) gf f' hs
def Y5(sc:Scope)(N N':Θ)(x0:Str)(hi:PI X tg iter wi)(hg:∀{C s₀ H₀ ex pn},PG (X.compGC N' scope x0 C s₀ H₀ ex pn) tg gt)(ht:∀{C s₀ H₀ ex pn},PTs (X.compGC N' scope x0 C s₀ H₀ ex pn) aI tc)(he:∀{C s₀ H₀ ex pn},PE (X.compGC N' scope x0 C s₀ H₀ ex pn) bg te)
 (cS:X.env.scope=sc:=by rfl)(c8:X.N=N:=by rfl)(hc:X.calm=true:=by rfl)(hk:scope.kind=.function:=by rfl)(gi:∀n acc,cellsFrom n scope.names acc=(x0,n)::acc:=by intro _ _;rfl)(gd:∀h,pushCells h scope.names=h.push { cls:=.type "cell",data:=.cell none }:=by intro _;rfl)(h:(∀y∈scope.names,y.2=.cell->y.1=x0)/\CK0 sc scope N N' [x0]:=by decide +kernel)(hs:zh X iter:=by intro _;rfl):PE X (.ListComp bg [⟨tg,iter,aI,0⟩] scope pos) (qg wi 1 (tMG gt) (tMT tc) (tM te)):=by
 subst cS c8;exact Rr (ext1 gi gd h.1) hc h.2.1 hk h.2.2.1 h.2.2.2.1 h.2.2.2.2.1 h.2.2.2.2.2 hi (λ_ _ _ _ _=>hg.mono) (λ_ _ _ _ _=>ht.mono) (λ_ _ _ _ _=>he.mono) hs
def ag2{N0:Θ}{x0:Str}{sO:Scope}{C0:Addr}{s0:Shared}{H0:Hp}{eM:Φ}{dS:Γ}(sc:Scope)(N N' xs:Θ)(hi:PI (X.compGC N0 sO x0 C0 s0 H0 eM dS) tg iter wi)(hg:∀{C s₀ H₀ ex pn},PG ((X.compGC N0 sO x0 C0 s0 H0 eM dS).compG N' scope xs C s₀ H₀ ex pn) tg gt)(ht:∀{C s₀ H₀ ex pn},PTs ((X.compGC N0 sO x0 C0 s0 H0 eM dS).compG N' scope xs C s₀ H₀ ex pn) aI tc)(he:∀{C s₀ H₀ ex pn},PE ((X.compGC N0 sO x0 C0 s0 H0 eM dS).compG N' scope xs C s₀ H₀ ex pn) bg te)
 (cS:X.env.scope=sc:=by rfl)(c8 : [x0]++N0=N:=by rfl)(hc:X.calm=true:=by rfl)(hk:scope.kind=.function:=by rfl)(h:CK (rlb sc sO) scope N N' xs:=by decide +kernel)(hs:∀z,foldedSetIterable iter (X.compGC N0 sO x0 C0 s0 H0 eM dS).env z=pure z:=by intro _;rfl):PE (X.compGC N0 sO x0 C0 s0 H0 eM dS) (.ListComp bg [⟨tg,iter,aI,0⟩] scope pos) (qg wi xs.length (tMG gt) (tMT tc) (tM te)):=by
 subst cS c8;exact Z1 (X:=X.compGC N0 sO x0 C0 s0 H0 eM dS) (rlb X.env.scope sO) _ N' xs hi hg ht he rfl rfl hc hk h hs
end
def akd{K:Frag}{a:Addr}{i j:Int}{d:Ω}{n:Nat}{sl:Array (Ψ)}{t u:Tok}(l:K.lookup a=some ⟨.type "tuple",d,.seq #[.int i t,.int j u] n,sl⟩):∀H,SqT K H a [.int i,.int j]:=λH=>.inr ⟨_,_,_,l,rfl,rfl,(by show 2<=sizeLine;decide),.cons ⟨_,rfl⟩ (.cons ⟨_,rfl⟩ .nil)⟩
def amy{K:Frag}{h:Heap}{mg:Str->Ψ}{x:Str}{i:Int}{t:Tok}(X:K.In h)(G:h.Ns mainGlobals mg)(l:nsIn K mainGlobals x=some (some (.int i t))):∃u,mg x=some u/\RelV (.int i) u:=⟨_,mg_of X G l,_,rfl⟩
def Lst:Nat->(Δ->Prop)->Prop
 |0,P=>P []
 |n+1,P=>∀a,Lst n λl=>P (a::l)
theorem Lr:∀(n:Nat){P:Δ->Prop},Lst n P->∀us:Δ,us.length=n->P us
 |0,_,h,[],_=>h
 |n+1,_,h,a::l,e=>Lr n (h a) l (Nat.succ.inj e)
section
variable{K:Frag}{h:Heap}{mg:Str->Ψ}{x m ah:Str}{v:Value}{C f:Addr}{st:Stmt}{ps:Θ}{oc:Value}{od an:Ω}{dt:Array (Ψ)}{kV bS pm ai ct:Value}{i j:Int}{d:Ω}{n:Nat}{sl:Array (Ψ)}{t u:Tok}
def q_c(X:K.In h:=by assumption)(G:h.Ns mainGlobals mg:=by assumption)(e:nsIn K mainGlobals x=some (some v):=by k_is):mg x=some v:=mg_of X G e
def q_z(X:K.In h:=by assumption)(G:h.Ns mainGlobals mg:=by assumption)(e:nsIn K mainGlobals x=some none:=by k_is):mg x=none:=PySem.W.mg_none_of X G e
def q_n(e:findIn K (.ref C) x=some none:=by k_is):bZ K C x:=e
def q_m(a:findIn K (.ref C) m=some (some (.ref f)):=by k_is)(b:isFn K (.ref f)=true:=by k_is)(c:keepIn K (.ref f)=true:=by k_is):Meth K C m f:=⟨a,b,c⟩
def q_M(a:makesIn K C=true:=by k_is)(b:findIn K (.ref C) "__init__"=some (some (.ref f)):=by k_is)(c:isFn K (.ref f)=true:=by k_is)(e:keepIn K (.ref C)=true:=by k_is):Mk K C f:=⟨a,b,c,e⟩
def q_4(a:plainGet K C Str.empty=true:=by k_is)(b:hasDictIn K C=true:=by k_is)(c:plainOver K C=true:=by k_is)(e:findIn K (.ref C) "__setattr__"=some (some (.builtin "object.__setattr__")):=by k_is):Cls K C:=⟨a,b,c,e⟩
def q_B(a:specialIn K (.ref C) "__getattribute__"=some (some (.builtin "type.__getattribute__")):=by k_is)(b:readsIn K C (.type "type")=true:=by k_is)(c:findCls K (.ref C) (.type "type") m=some (.val (.ref f)):=by k_is)(e:keepIn K (.ref f)=true:=by k_is):Ej K C m f:=⟨a,b,c,rfl,e⟩
def q_g(X:K.In h:=by assumption)(G:h.Ns mainGlobals mg:=by assumption)(l:nsIn K mainGlobals x=some (some (.int i t)):=by k_is):∃u,mg x=some u/\RelV (.int i) u:=amy X G l
def q_t(l:K.lookup C=some ⟨.type "tuple",d,.seq #[.int i t,.int j u] n,sl⟩:=by k_is):∀H,SqT K H C [.int i,.int j]:=akd l
def q_f(hb:∀(kV bS pm:Value)(an:Ω)(ai ct:Value),Lst ps.length λus=>bindArgs (PySem.W.fnOf x x (jG st) (eU st) (bF st) .none kV bS pm an ai ct) ⟨us,[]⟩=pure (ps.zip us):=by repeat (first|rfl|intro _))(X:K.In h:=by assumption)(G:h.Ns mainGlobals mg:=by assumption)
 (a:nsIn K mainGlobals x=some (some (.ref f)):=by k_is)(l:K.lookup f=some ⟨oc,od,.func (PySem.W.fnOf x x (jG st) (eU st) (bF st) .none kV bS pm an ai ct),dt⟩:=by k_is)
 (c:codeIn K ai x=true:=by k_is)(k:keepIn K (.ref f)=true:=by k_is):cQ K mg x st ps:=adn X G a l c k λkV bS pm an ai ct us e=>Lr _ (hb kV bS pm an ai ct) us e
def q_h(hb:∀(kV bS pm:Value)(an:Ω)(ai ct:Value),Lst ps.length λus=>bindArgs (PySem.W.fnOf x ah (jG st) (eU st) (bF st) .none kV bS pm an ai ct) ⟨us,[]⟩=pure (ps.zip us):=by repeat (first|rfl|intro _))
 (l:K.lookup f=some ⟨oc,od,.func (PySem.W.fnOf x ah (jG st) (eU st) (bF st) .none kV bS pm an ai ct),dt⟩:=by k_is)(c:codeIn K ai ah=true:=by k_is)(k:keepIn K (.ref f)=true:=by k_is):vL K x ah st ps f:=aee l c k λkV bS pm an ai ct us e=>Lr _ (hb kV bS pm an ai ct) us e
end
section
variable{K:Frag}{C HE fI:Addr}{nm qn:Str}{N:Addr}{bs sub:Δ}{sn:Θ}{ab:Bool}{col:Option Bool}{dd:Ω}{k0 k1 k2 k3 k5:Ψ}{o:Obj}{cd:ClassData}
def q_E(he:excIn K HE bmV "ValueError.__new__"=true:=by k_exc)(l:K.lookup C=some (excClassObj nm qn C N bs (.ref HE::bmV) true sn sub ab col dd k0 k1 k2 k3 k5 "ValueError.__new__"):=by k_is)(n1:nsOkIn K N=true:=by kernel_rfl)(n2:nsIn K N "__init__"=some (some (.ref fI)):=by k_is)
 (lf:K.lookup fI=some o:=by k_is)(hf:o.cls=.type "function":=by rfl)(kp:keepIn K (.ref C)=true:=by k_is):Jt K C HE fI:=⟨⟨nm,qn,N,bs,sn,sub,ab,col,dd,k0,k1,k2,k3,k5,l,n1,n2⟩,he,⟨o,lf,hf⟩,kp⟩
def q_S(a:clsIn K C=some cd:=by k_is)(b:cd.hasDict=true:=by rfl)(c:Ng cd.mro=true:=by rfl)(e:findIn K (.ref C) "__setattr__"=some (some (.builtin "object.__setattr__")):=by k_is)(m:mroIn K C (.type "object")=some true:=by k_is):X3 K C:=⟨⟨cd,a,b,c⟩,e,m⟩
def q_b(a:specialIn K (.ref C) "__getattribute__"=some (some (.builtin "type.__getattribute__")):=by k_is)(b:readsIn K C (.type "type")=true:=by k_is)(c:findCls K (.ref C) (.type "type") "__init__"=some (.val (.builtin "ValueError.__init__")):=by k_is):abq K C:=⟨a,b,c⟩
def q_5(a:findIn K (.ref C) "__getattribute__"=some (some (.builtin "BaseException.__getattribute__")):=by k_is)(b:findIn K (.ref C) "__getattr__"=some none:=by k_is)(c:findIn K (.ref C) "__class__"=some (some (.builtin "object.__class__")):=by k_is)(e:mroIn K C (.type "object")=some true:=by k_is)(m:mroIn K C (.type "BaseException")=some true:=by k_is):S9 K C:=⟨a,b,c,e,m⟩
end
section
variable{X:Cx}{k:Nat}{f C:Addr}{ps:Θ}{sp:Sp}{m:Str}{pos ag:Pos}{e o:Expr}{es:List Expr}{ta:TE}{t:TA}{Ex:Value->Ω->L2.St->Hp->Prop}
def ace(C:Addr)(m:Str)(sp:Sp)(Ex:Value->Ω->L2.St->Hp->Prop)(ta:TE)(t:TA):TE:=λσ H Q=>ta σ H λx H1=>∃a dx fs,x=.ref a/\H1 a=some (.ins C dx fs)/\fs.lookup m=none/\t σ H1 λvs H2=>sp (x::vs) H2 Q λD d H'=>Ex D d σ H'
def Xx{pl:Sem Bool}(he:PE X o ta)(c:Cls X.K C)(hm:Meth X.K C m f)(G:zI X (CXO X.prog X.w) k f ps sp)(hr:dh k X.A)(hx:Yu X Ex)(ha:PA X (e::es) t)
 (bj:zb X e es:=by rfl)(aE:zg X pos es:=by rfl)
 (ht:eval (.Call (.Attribute o m ag) (e::es) [] pos) X.env=(do
   let ov <- eval o X.env
   standAt ag.atName
   let(f,first) <- holding [ov] (getMethod ov m pl)
   callWith pos f first (backTo pos (starEach (e::es) X.env)) (backToKw pos (keywordEach [] X.env))):=by rfl) :
  PE X (.Call (.Attribute o m ag) (e::es) [] pos) (ace C m sp Ex ta t):=by
 obtain⟨fd,F,hb⟩:=G;intro aa s σ H Q I h;refine methodCall_KW (pl:=pl) (thn (he aa s σ H _ I h) λu s1 hP=>?_) ht;obtain⟨x,H1,I1,rx,a,dx,fs,ex,ea,l,q⟩:=hP;subst ex;obtain rfl:u=Value.ref a:=rx;refine zU I1 ea c hm l ?_;refine callWith_K (first:=[.ref a]) (h₀:=X.base) I1.ok.mod.kin hm.kp (thn (ha pos aa _ σ H1 _ I1 q) λus s2 ⟨vs,H2,I2,r,q2⟩=>⟨I2.kIn,?_⟩) bj aE;exact ac2 (us:=.ref a::us) (vs:=.ref a::vs) F hr hb .nil hx I2 (.cons rfl r) (by rw[List.append_nil];exact q2)
def QJ{K':Frag}{f:Str}(hK:X.K=K')(he:PE X e ta)(hb:zt X e f):PE X (.Attribute e f pos) (aeO K' ta f):=by
 subst hK;exact ab4 he hb
end
section
variable{X:Cx}{es:List Expr}{t:TA}{pos:Pos}
def ani(t:TA):TE:=λσ H Q=>t σ H λxs H1=>xs.length<=sizeLine/\∀p H',Same H1 H'->H1 p=none->H' p=some (.lst xs)->Q (.ref p) H'
def amf(t:TA):TE:=λσ H Q=>t σ H λxs H1=>xs.length<=sizeLine/\∀p H',Same H1 H'->H1 p=none->H' p=some (.tup xs)->Q (.ref p) H'
def aed(h:PA X es t):PE X (.List es pos) (ani t):=(Tv h.mono).imp λσ H Q h=>⟨_,h,λxs H1 z=>⟨z.1,λp hp=>z.2 p _ (Same.upd hp) hp bY⟩⟩
def Gb{k:Nat}(h:PA X es t):PE X (.Tuple es k pos) (amf t):=(aaS h.mono).imp λσ H Q h=>⟨_,h,λxs H1 z=>⟨z.1,λp hp=>z.2 p _ (Same.upd hp) hp bY⟩⟩
def ajJ:R2:=λx y H Q=>∃l b xs zs,x=.ref l/\y=.ref b/\H l=some (.lst xs)/\H b=some (.lst zs)/\xs.length+zs.length<=sizeLine/\∀p H',Same H H'->H p=none->H' p=some (.lst (xs++zs))->Q (.ref p) H'
def ad1:OpR X (binaryOp .Add) ajJ:=ag4.imp λx y H Q hP=>by obtain⟨l,b,xs,zs,e1,e2,h1,h2,z,q⟩:=hP;exact⟨l,b,xs,zs,e1,e2,h1,h2,z,λp hp=>q p _ (Same.upd hp) hp bY⟩
def akZ:Ε->Hp->VK->Prop:=λxs H Q=>∃p ys,xs=[.ref p]/\H p=some (.lst ys)/\∀l H',Same H H'->H l=none->H' l=some (.tup ys)->Q (.ref l) H'
def Yo:jq X (.type "tuple") akZ:=Kh.imp λxs H Q hP=>by obtain⟨p,ys,a,b,c⟩:=hP;exact⟨p,ys,a,.inl ⟨.of b,λl hl=>c l _ (Same.upd hl) hl bY⟩⟩
def amK(to:TE):TE:=λσ H Q=>to σ H λx H1=>∃l xs,x=.ref l/\H1 l=some (.lst xs)/\Q .non (upd H1 l (.lst xs.reverse))
def afL{o:Expr}{to:TE}{ag af:Pos}(ho:PE X o to)(hb:attributeBase o "reverse" X.env (eval o X.env)=eval o X.env:=by rfl)(hl:zD ag af:=by rfl) :
  PE X (.Call (.Attribute o "reverse" ag) [] [] af) (amK to):=by
 refine(afm PySem.F.plainAttrs_list PySem.F.slot_list_reverse PySem.F.type_list_reverse Vo ho.mono hb hl).imp λσ H Q h=>?_;refine⟨_,h,?_⟩;rintro x H1 ⟨l,xs,rfl,hx,q⟩;exact⟨.inl ⟨rfl,_,SqL.of hx⟩,l,xs,rfl,rfl,hx,q⟩
end
section
variable{X:Cx}{k:Nat}{f C B:Addr}{ps:Θ}{sp:Sp}{x m:Str}{p pos ag:Pos}{e:Expr}{es:List Expr}{t:TA}
def agR(C:Addr)(sp:Sp)(t:TA):TE:=λσ H Q=>t σ H λvs H1=>∀x dx,H1 x=none->H1 dx=none->dx≠x->sp (.ref x::vs) (upd (upd H1 dx (.own x)) x (.ins C dx [])) (λv H2=>v=.non/\Q (.ref x) H2) E0
def Ze(M:Mk X.K C f)(G:zI X CX0 k f ps sp)(hr:dh (k+1) X.A)(hg:Gl X x)(hm:X.mg x=some (.ref C))(ha:PA X (e::es) t)(bz:zk x:=by decide)
 (he:zb X e es:=by rfl)(aE:zg X pos es:=by rfl):PE X (.Call (.Name x p) (e::es) [] pos) (agR C sp t):=by
 obtain⟨fd,F,hb⟩:=G;refine(acp M F hr hg hm hb .nil Lf ha.mono bz he aE).imp λσ H Q h=>⟨_,h,λvs H1 q x dx h1 h2 h3=>?_⟩;rw[List.append_nil];exact q x dx h1 h2 h3
def aaH{pl:Sem Bool}(c:Ej X.K B m f)(G:zI X CX0 k f ps sp)(hr:dh k X.A)(hg:Gl X x)(hm:X.mg x=some (.ref B))(ha:PA X (e::es) t)(bz:zk x:=by decide)
 (bj:zb X e es:=by rfl)(aE:zg X pos es:=by rfl)
 (ht:eval (.Call (.Attribute (.Name x p) m ag) (e::es) [] pos) X.env=(do
   let ov <- eval (.Name x p) X.env
   standAt ag.atName
   let(f,first) <- holding [ov] (getMethod ov m pl)
   callWith pos f first (backTo pos (starEach (e::es) X.env)) (backToKw pos (keywordEach [] X.env))):=by rfl) :
  PE X (.Call (.Attribute (.Name x p) m ag) (e::es) [] pos) (Uh sp t):=by
 obtain⟨fd,F,hb⟩:=G;exact acj (pl:=pl) c F hr hg hm hb ha bz bj aE ht
end
inductive T where
 |any|non|bl (b:Bool)|int (i:Int)|str (s:Str)|val (v:V)
 |tup (ts:List T)|lst (ts:List T)|scr (ts:List T)
 |dct (ks:List Key) (ts:List T)|ins (C:Addr) (ks:Θ) (ts:List T)
mutual
inductive Rep(K:Frag)(F:Hp):V->T->Prop
 |any (v:V):Rep K F v .any
 |non:Rep K F .non .non
 |bl (b:Bool):Rep K F (.bl b) (.bl b)
 |int (i:Int):Rep K F (.int i) (.int i)
 |str (s:Str):Rep K F (.str s) (.str s)
 |val (v:V):Rep K F v (.val v)
 |tup {a:Addr}{xs:Ε}{ts:List T} : SqT K F a xs->bV K F xs ts->Rep K F (.ref a) (.tup ts)
 |lst {a:Addr}{xs:Ε}{ts:List T} : F a=some (.lst xs)->bV K F xs ts->Rep K F (.ref a) (.lst ts)
 |scr {a:Addr}{xs:Ε}{ts:List T} : SqL K F a xs->bV K F xs ts->Rep K F (.ref a) (.scr ts)
 |dct {a:Addr}{ks:List Key}{xs:Ε}{ts:List T} : Rd F a (.dK (ks.zip xs))->ks.length=xs.length->bV K F xs ts->Rep K F (.ref a) (.dct ks ts)
 |ins {a C dx:Addr}{ks:Θ}{xs:Ε}{ts:List T} : F a=some (.ins C dx (ks.zip xs))->F dx=some (.own a)->ks.length=xs.length->bV K F xs ts->Rep K F (.ref a) (.ins C ks ts)
inductive bV(K:Frag)(F:Hp):Ε->List T->Prop
 |nil:bV K F [] []
 |cons {x:V}{xs:Ε}{t:T}{ts:List T} : Rep K F x t->bV K F xs ts->bV K F (x::xs) (t::ts)
end
section
variable{K:Frag}{F F' H H':Hp}
def Same.rd{a:Addr}{u:HO}(S:Same F F')(h:Rd F a u):Rd F' a u:=h.imp (S _ _) λhP=>by obtain⟨o,e⟩:=hP;exact⟨o,S _ _ e⟩
mutual
theorem Rep.same(S:Same F F'):∀{x:V}{t:T},Rep K F x t->Rep K F' x t
 |_,_,.any v=>.any v
 |_,_,.non=>.non
 |_,_,.bl b=>.bl b
 |_,_,.int i=>.int i
 |_,_,.str s=>.str s
 |_,_,.val v=>.val v
 |_,_,.tup e h=>.tup (S.tup e) (bV.same S h)
 |_,_,.lst e h=>.lst (S _ _ e) (bV.same S h)
 |_,_,.scr e h=>.scr (S.seq e) (bV.same S h)
 |_,_,.dct e l h=>.dct (S.rd e) l (bV.same S h)
 |_,_,.ins e d l h=>.ins (S _ _ e) (S _ _ d) l (bV.same S h)
theorem bV.same(S:Same F F'):∀{xs:Ε}{ts:List T},bV K F xs ts->bV K F' xs ts
 |_,_,.nil=>.nil
 |_,_,.cons h t=>.cons (Rep.same S h) (bV.same S t)
end
def Rep.lstI{x:V}{ts:List T}(h:Rep K F x (.lst ts)):∃a xs,x=.ref a/\F a=some (.lst xs)/\bV K F xs ts:=by cases h;exact⟨_,_,rfl,by assumption,by assumption⟩
def Rep.tupI{x:V}{ts:List T}(h:Rep K F x (.tup ts)):∃a xs,x=.ref a/\SqT K F a xs/\bV K F xs ts:=by cases h;exact⟨_,_,rfl,by assumption,by assumption⟩
def Rep.scrI{x:V}{ts:List T}(h:Rep K F x (.scr ts)):∃a xs,x=.ref a/\SqL K F a xs/\bV K F xs ts:=by cases h;exact⟨_,_,rfl,by assumption,by assumption⟩
def Rep.dctI{x:V}{ks:List Key}{ts:List T}(h:Rep K F x (.dct ks ts)):∃a xs,x=.ref a/\Rd F a (.dK (ks.zip xs))/\ks.length=xs.length/\bV K F xs ts:=by cases h;exact⟨_,_,rfl,by assumption,by assumption,by assumption⟩
def Rep.insI{x:V}{C:Addr}{ks:Θ}{ts:List T}(h:Rep K F x (.ins C ks ts)):∃a dx xs,x=.ref a/\F a=some (.ins C dx (ks.zip xs))/\F dx=some (.own a)/\ks.length=xs.length/\bV K F xs ts:=by cases h;exact⟨_,_,_,rfl,by assumption,by assumption,by assumption,by assumption⟩
theorem bV.len:∀{xs:Ε}{ts:List T},bV K F xs ts->xs.length=ts.length
 |_,_,.nil=>rfl
 |_,_,.cons _ t=>ZH (· + 1) (bV.len t)
theorem bV.app:∀{xs ys:Ε}{ts us:List T},bV K F xs ts->bV K F ys us->bV K F (xs++ys) (ts++us)
 |_,_,_,_,.nil,h=>h
 |_,_,_,_,.cons a b,h=>.cons a (bV.app b h)
theorem bV.at_:∀{xs:Ε}{ts:List T}{i:Nat}{t:T},bV K F xs ts->ts[i]?=some t->∃x,xs[i]?=some x/\Rep K F x t
 |_,_,_,_,.nil,e=>by cases e
 |_,_,0,_,.cons a _,e=>by cases e;exact⟨_,rfl,a⟩
 |_,_,i+1,_,.cons _ b,e=>by
  obtain⟨x,q,r⟩:=bV.at_ (i:=i) b (by simpa using e);exact⟨x,by simpa using q,r⟩
theorem bV.of_at:∀{xs:Ε}{ts:List T},xs.length=ts.length->(∀(i:Nat)x t,xs[i]?=some x->ts[i]?=some t->Rep K F x t)->bV K F xs ts
 |[],[],_,_=>.nil
 |x::xs,t::ts,l,h=>.cons (h 0 x t rfl rfl) (bV.of_at (Nat.succ.inj l) λi y u e1 e2=>h (i+1) y u e1 e2)
 |[],_::_,l,_=>by cases l
 |_::_,[],l,_=>by cases l
theorem bV.set{x:V}{t:T}(r:Rep K F x t):∀{xs:Ε}{ts:List T}(i:Nat),bV K F xs ts->bV K F (xs.set i x) (ts.set i t)
 |_,_,_,.nil=>.nil
 |_,_,0,.cons _ h=>.cons r h
 |_,_,i+1,.cons a h=>.cons a (bV.set r i h)
theorem bV.take:∀{xs:Ε}{ts:List T}(n:Nat),bV K F xs ts->bV K F (xs.take n) (ts.take n)
 |_,_,0,_=>.nil
 |_,_,_+1,.nil=>.nil
 |_,_,n+1,.cons a h=>.cons a (bV.take n h)
theorem bV.drop:∀{xs:Ε}{ts:List T}(n:Nat),bV K F xs ts->bV K F (xs.drop n) (ts.drop n)
 |_,_,0,h=>h
 |_,_,_+1,.nil=>.nil
 |_,_,n+1,.cons _ h=>bV.drop n h
def hd(S:Addr->Prop)(H:Hp):Hp:=λb=>open Classical in if S b then none else H b
def n8{S:Addr->Prop}{b:Addr}(h:S b):hd S H b=none:=by unfold hd;rw[ZY h]
def cL{S:Addr->Prop}{b:Addr}(h:¬S b):hd S H b=H b:=by unfold hd;rw[ZZ h]
def cI{S:Addr->Prop}{b:Addr}{o:HO}(e:hd S H b=some o):¬S b/\H b=some o:=by
 by_cases h:S b
 .rw[n8 h]at e;cases e
 .rw[cL h]at e;exact⟨h,e⟩
def gW{S S':Addr->Prop}(i:∀b,S' b->S b\/H b=none)(e:Same H H'):Same (hd S H) (hd S' H'):=λb o h=>by
 obtain⟨n,h⟩:=cI h;rw[cL λz=>?_]
 .exact e _ _ h
 .rcases i b z with y|y
  .exact n y
  .rw[h]at y;cases y
def cC{S:Addr->Prop} : Same (hd S H) H:=λ_ _ h=>(cI h).2
def bN{S:Addr->Prop}(e:Same H H'):Same (hd S H) (hd S H'):=gW (λ_=>.inl) e
def Gd:hd (λ_=>False) H=H:=funext λ_=>cL id
inductive OT where
 |und|fz (t:T)|l1 (ts:List T)|l2 (tss:List (List T))|d1 (ks:List Key) (ts:List T)|ob (a dx C:Addr) (ks:Θ) (ts:List T)|la (a:Addr) (ts:List T)
def frz:OT->T
 |.und=>.any
 |.fz t=>t
 |.l1 ts=>.lst ts
 |.l2 tss=>.lst (tss.map T.lst)
 |.d1 ks ts=>.dct ks ts
 |.ob _ _ C ks ts=>.ins C ks ts
 |.la _ ts=>.lst ts
def Slo(K:Frag)(F H:Hp)(v:Option V)(A:Φ):OT->Prop
 |.und=>A=[]
 |.fz t=>A=[]/\∃u,v=some u/\Rep K F u t
 |.l1 ts=>∃a xs,v=some (.ref a)/\A=[a]/\H a=some (.lst xs)/\bV K F xs ts
 |.l2 tss=>∃a bs,v=some (.ref a)/\A=a::bs/\(a::bs).Nodup/\H a=some (.lst (bs.map V.ref))/\bs.length=tss.length/\∀(i:Nat)b ts,bs[i]?=some b->tss[i]?=some ts->∃xs,H b=some (.lst xs)/\bV K F xs ts
 |.d1 ks ts=>∃a xs,v=some (.ref a)/\A=[a]/\H a=some (.dK (ks.zip xs))/\ks.length=xs.length/\bV K F xs ts
 |.ob a dx C ks ts=>∃xs,v=some (.ref a)/\A=[a,dx]/\H a=some (.ins C dx (ks.zip xs))/\H dx=some (.own a)/\ks.length=xs.length/\bV K F xs ts
 |.la a ts=>∃xs,v=some (.ref a)/\A=[a]/\H a=some (.lst xs)/\bV K F xs ts
def Slo.same{v:Option V}{A:Φ}(S:Same F F')(E:Same H H'):∀{x:OT},Slo K F H v A x->Slo K F' H' v A x
 |.und,h=>h
 |.fz _,⟨a,u,e,r⟩=>⟨a,u,e,r.same S⟩
 |.l1 _,⟨a,xs,e,z,h,r⟩=>⟨a,xs,e,z,E _ _ h,r.same S⟩
 |.l2 _,⟨a,bs,e,z,n,h,l,r⟩=>⟨a,bs,e,z,n,E _ _ h,l,λi b ts e1 e2=>let⟨xs,q,r⟩:=r i b ts e1 e2;⟨xs,E _ _ q,r.same S⟩⟩
 |.d1 _ _,⟨a,xs,e,z,h,l,r⟩=>⟨a,xs,e,z,E _ _ h,l,r.same S⟩
 |.ob _ _ _ _ _,⟨xs,e,z,h,d,l,r⟩=>⟨xs,e,z,E _ _ h,E _ _ d,l,r.same S⟩
 |.la _ _,⟨xs,e,z,h,r⟩=>⟨xs,e,z,E _ _ h,r.same S⟩
def Slo.off{v:Option V}{A:Φ} : ∀{x:OT},Slo K F H v A x->(∀b∈A,∀u,H b=some u->H' b=some u)->Slo K F H' v A x
 |.und,s,_=>s
 |.fz _,s,_=>s
 |.l1 _,⟨a,xs,e,z,w,r⟩,off=>⟨a,xs,e,z,off a (by rw[z];simp) _ w,r⟩
 |.l2 _,⟨a,bs,e,z,nd,w,l,r⟩,off=>⟨a,bs,e,z,nd,off a (by rw[z];simp) _ w,l,λi b ts e1 e2=>let⟨xs,q,r⟩:=r i b ts e1 e2;⟨xs,off b (by rw[z];exact aJ _ (aC e1)) _ q,r⟩⟩
 |.d1 _ _,⟨a,xs,e,z,w,r⟩,off=>⟨a,xs,e,z,off a (by rw[z];simp) _ w,r⟩
 |.ob a dx _ _ _,⟨xs,e,z,w,d,r⟩,off=>⟨xs,e,z,off a (by rw[z];simp) _ w,off dx (by rw[z];simp) _ d,r⟩
 |.la a _,⟨xs,e,z,w,r⟩,off=>⟨xs,e,z,off a (by rw[z];simp) _ w,r⟩
def YK(H:Hp)(a:Addr):Prop:=∃o,H a=some o/\((∃xs,o=.lst xs)\/(∃k,o=.dK k)\/(∃C d f,o=.ins C d f)\/∃x,o=.own x)
def Slo.sole{v:Option V}{A:Φ}{x:OT}(h:Slo K F H v A x){a:Addr}(ha:a∈A):YK H a:=by
 cases x with
 |und=>rw[show A=[]from h]at ha;cases ha
 |fz t=>rw[h.1]at ha;cases ha
 |l1 ts=>obtain⟨b,xs,_,rfl,e,_⟩:=h;cases YR.mp ha;exact⟨_,e,.inl ⟨_,rfl⟩⟩
 |l2 tss =>
  obtain⟨b,bs,_,rfl,_,e,l,r⟩:=h;rcases YU.mp ha with z|z
  .exact⟨_,z ▸ e,.inl ⟨_,rfl⟩⟩
  .obtain⟨i,hi⟩:=aV z;have li:i<tss.length:=l ▸ (ao.mp hi).1;obtain⟨xs,q,_⟩:=r i a _ hi (aj li);exact⟨_,q,.inl ⟨_,rfl⟩⟩
 |d1 ks ts=>obtain⟨b,xs,_,rfl,e,_⟩:=h;cases YR.mp ha;exact⟨_,e,.inr (.inl ⟨_,rfl⟩)⟩
 |ob b dx C ks ts =>
  obtain⟨xs,_,rfl,e,d,_⟩:=h;rcases YU.mp ha with z|z
  .exact⟨_,z ▸ e,.inr (.inr (.inl ⟨_,_,_,rfl⟩))⟩
  .cases YR.mp z;exact⟨_,d,.inr (.inr (.inr ⟨_,rfl⟩))⟩
 |la b ts=>obtain⟨xs,_,rfl,e,_⟩:=h;cases YR.mp ha;exact⟨_,e,.inl ⟨_,rfl⟩⟩
def Slo.frz{u:V}{A:Φ}{x:OT}(h:Slo K F H (some u) A x)(S:Same F F')(E:∀a∈A,F' a=H a):Rep K F' u (frz x):=by
 cases x with
 |und=>exact .any _
 |fz t=>obtain⟨_,w,e,r⟩:=h;cases e;exact r.same S
 |l1 ts=>obtain⟨b,xs,e,rfl,q,r⟩:=h;cases e;exact .lst ((E _ (by simp)).trans q) (r.same S)
 |l2 tss =>
  obtain⟨b,bs,e,rfl,_,q,l,r⟩:=h;cases e;refine .lst ((E _ (by simp)).trans q) (bV.of_at (by simp[l]) λi x t e1 e2=>?_);rw[aq]at e1 e2;cases e3:bs[i]? with
  |none=>rw[e3]at e1;cases e1
  |some c =>
   cases e4:tss[i]? with
   |none=>rw[e4]at e2;cases e2
   |some ts =>
    rw[e3]at e1;rw[e4]at e2;cases e1;cases e2;obtain⟨xs,q,r⟩:=r i c ts e3 e4;exact .lst ((E _ (aJ _ (aC e3))).trans q) (r.same S)
 |d1 ks ts=>obtain⟨b,xs,e,rfl,q,l,r⟩:=h;cases e;exact .dct (.inl ((E _ (by simp)).trans q)) l (r.same S)
 |ob b dx C ks ts=>obtain⟨xs,e,rfl,q,d,l,r⟩:=h;cases e;exact .ins ((E _ (by simp)).trans q) ((E _ (by simp)).trans d) l (r.same S)
 |la b ts=>obtain⟨xs,e,rfl,q,r⟩:=h;cases e;exact .lst ((E _ (by simp)).trans q) (r.same S)
abbrev zC:Type:=Nat->Φ
def Ow(own:zC)(b:Addr):Prop:=∃i,b∈own i
structure SR(K:Frag)(own:zC)(H:Hp)(σ:L2.St)(o:List OT):Prop where
 len:o.length=σ.length
 sl:∀i x,o[i]?=some x->Slo K (hd (Ow own) H) H (σ[i]?.join) (own i) x
 out:∀i,o.length<=i->∀a∈own i,∃xs,H a=some (.lst xs)
 dis:∀i j a,a∈own i->a∈own j->i=j
variable{own:zC}{σ:L2.St}{o:List OT}
def SR.same(h:SR K own H σ o)(E:Same H H'):SR K own H' σ o:=⟨h.len,λi x e=>(h.sl i x e).same (bN E) E,λi hi a ha=>let⟨xs,e⟩:=h.out i hi a ha;⟨xs,E _ _ e⟩,h.dis⟩
def SR.sole(h:SR K own H σ o){b:Addr}(z:Ow own b):YK H b:=by
 obtain⟨i,z⟩:=z;by_cases hi:i<o.length
 .exact(h.sl i _ (aj hi)).sole z
 .obtain⟨xs,e⟩:=h.out i (Nat.not_lt.mp hi) b z;exact⟨_,e,.inl ⟨_,rfl⟩⟩
def YK.ne{a:Addr}(h:YK H a):H a≠none:=by
 obtain⟨o,e,_⟩:=h;rw[e];exact λz=>by cases z
def NR(K:Frag)(S:Addr->Prop)(H H':Hp)(v:V)(x:OT):Prop:=∃B,(∀a∈B,H a=none)/\Slo K (hd (λb=>S b\/b∈B) H') H' (some v) B x
def NR.rep{S:Addr->Prop}{v:V}{x:OT}(h:NR K S H H' v x)(hs:∀b,S b->H b≠none):Rep K (hd S H') v (L2.frz x):=by
 obtain⟨B,n,r⟩:=h;exact r.frz (gW (λb z=>.inl (.inl z)) (λ_ _ z=>z)) λa ha=>cL λz=>hs a z (n a ha)
def NR.fz{S:Addr->Prop}{v:V}{t:T}(h:Rep K (hd S H') v t):NR K S H H' v (.fz t):=⟨[],λ_ z=>(nomatch z),rfl,v,rfl,h.same (gW (λb z=>.inl (z.elim id λy=>(nomatch y))) λ_ _ z=>z)⟩
def NR.l1{S:Addr->Prop}{a:Addr}{xs:Ε}{ts:List T}(n:H a=none)(e:H' a=some (.lst xs))(h:bV K (hd (λb=>S b\/b=a) H') xs ts):NR K S H H' (.ref a) (.l1 ts) :=
 ⟨[a],λ_ z=>(YR.mp z) ▸ n,a,xs,rfl,rfl,e,h.same (gW (λb z=>.inl (z.imp id YR.mp)) λ_ _ z=>z)⟩
def NR.back{S:Addr->Prop}{H0:Hp}{v:V}{x:OT}(h:NR K S H H' v x)(E:Same H0 H):NR K S H0 H' v x:=by
 obtain⟨B,n,r⟩:=h;exact⟨B,λa ha=>E.free (n a ha),r⟩
def own1(own:zC)(i:Nat)(B:Φ):zC:=λj=>if j=i then B else own j
def iR{i:Nat}{B:Φ} : own1 own i B i=B:=ZY rfl
def dX{i j:Nat}{B:Φ}(h:j≠i):own1 own i B j=own j:=ZZ h
def Ow.of1{i:Nat}{B:Φ}{b:Addr}(h:Ow (own1 own i B) b):Ow own b\/b∈B:=by
 obtain⟨j,h⟩:=h;by_cases z:j=i
 .rw[z,iR]at h;exact .inr h
 .rw[dX z]at h;exact .inl ⟨j,h⟩
def SR.put(h:SR K own H σ o)(E:Same H H'){v:V}{x:OT}(n:NR K (Ow own) H H' v x){i:Nat}(hi:i<o.length):∃am,SR K am H' (σ.set i (some v)) (o.set i x)/\Same (hd (Ow own) H) (hd (Ow am) H'):=by
 obtain⟨B,nb,r⟩:=n;have le:Same (hd (Ow own) H) (hd (Ow (own1 own i B)) H'):=gW (λb z=>z.of1.imp id (nb b)) E;refine⟨own1 own i B,⟨by rw[WH,WH,h.len],λj y e=>?_,λj hj=>?_,λj k a e1 e2=>?_⟩,le⟩
 .by_cases z:j=i
  .subst z;rw[VT hi]at e;cases e;rw[iR,VT (h.len ▸ hi)];exact r.same (gW (λb z=>.inl z.of1) λ_ _ z=>z) λ_ _ z=>z
  .rw[VY (Ne.symm z)]at e;rw[dX z,VY (Ne.symm z)];exact(h.sl j y e).same le E
 .rw[WH]at hj;rw[dX (by lia)];intro a ha;obtain⟨xs,e⟩:=h.out j hj a ha;exact⟨xs,E _ _ e⟩
 .by_cases z:j=i<;>by_cases y:k=i
  .rw[z,y]
  .rw[z,iR]at e1;rw[dX y]at e2;exact absurd (nb a e1) (h.sole ⟨k,e2⟩).ne
  .rw[y,iR]at e2;rw[dX z]at e1;exact absurd (nb a e2) (h.sole ⟨j,e1⟩).ne
  .rw[dX z]at e1;rw[dX y]at e2;exact h.dis j k a e1 e2
def SR.frz(h:SR K own H σ o){i:Nat}{x:OT}(e:o[i]?=some x){u:V}(hu:σ[i]?=some (some u)):∃am,SR K am H σ (o.set i (.fz (L2.frz x)))/\Same (hd (Ow own) H) (hd (Ow am) H):=by
 have hi:i<o.length:=(ao.mp e).1;have le:Same (hd (Ow own) H) (hd (Ow (own1 own i [])) H):=gW (λb z=>.inl (z.of1.elim id λy=>(nomatch y))) λ_ _ z=>z;have hs:=h.sl i x e;rw[hu]at hs;refine⟨own1 own i [],⟨by rw[WH,h.len],λj y e'=>?_,λj hj=>?_,λj k a e1 e2=>?_⟩,le⟩
 .by_cases z:j=i
  .subst z;rw[VT hi]at e';cases e';rw[iR,hu];exact⟨rfl,u,rfl,Slo.frz hs le λa ha=>cL λz=>by
    obtain⟨k,z⟩:=z;by_cases y:k=j
    .rw[y,iR]at z;cases z
    .rw[dX y]at z;exact y (h.dis k j a z ha)⟩
  .rw[VY (Ne.symm z)]at e';rw[dX z];exact(h.sl j y e').same le λ_ _ z=>z
 .rw[WH]at hj;rw[dX (by lia)];exact h.out j hj
 .by_cases z:j=i
  .rw[z,iR]at e1;cases e1
  by_cases y:k=i
  .rw[y,iR]at e2;cases e2
  .rw[dX z]at e1;rw[dX y]at e2;exact h.dis j k a e1 e2
def SR.chg(h:SR K own H σ o){i:Nat}{x:OT}(e:o[i]?=some x){y:OT}(E:∀b u,b∉own i->H b=some u->H' b=some u)(r:Slo K (hd (Ow own) H') H' (σ[i]?.join) (own i) y):SR K own H' σ (o.set i y)/\Same (hd (Ow own) H) (hd (Ow own) H'):=by
 have hi:i<o.length:=(ao.mp e).1;have le:Same (hd (Ow own) H) (hd (Ow own) H'):=λb u z=>by
  obtain⟨n,z⟩:=cI z;rw[cL n];exact E b u (λq=>n ⟨i,q⟩) z
 refine⟨⟨by rw[WH,h.len],λj z e'=>?_,λj hj a ha=>?_,h.dis⟩,le⟩
 rotate_left
 .rw[WH]at hj;obtain⟨xs,e2⟩:=h.out j hj a ha;exact⟨xs,E a _ (λz=>by have:=h.dis j i a ha z;lia) e2⟩
 by_cases q:j=i
 .subst q;rw[VT hi]at e';cases e';exact r
 .rw[VY (Ne.symm q)]at e';exact((h.sl j z e').same le λ_ _ z=>z).off λb hb u=>E b u λz=>q (h.dis j i b hb z)
def SR.get(h:SR K own H σ o){i:Nat}{t:T}(e:o[i]?=some (.fz t)):∃u,σ[i]?=some (some u)/\Rep K (hd (Ow own) H) u t:=by
 obtain⟨_,u,q,r⟩:=h.sl i _ e;refine⟨u,?_,r⟩;cases z:σ[i]? with
 |none=>rw[z]at q;cases q
 |some w=>rw[z]at q;exact ZH some q
end
end L2
namespace L2
open PySem PySem.Spec PyProof.Rows
abbrev RE:=List OT->(OT->Prop)->Prop
abbrev RT:=List OT->(Bool->Prop)->Prop
abbrev RA:=List OT->(List T->Prop)->Prop
def tQ(K:Frag)(r:RE):TE:=λσ H Q=>∃own o R,SR K own H σ o/\r o R/\∀H' v x,R x->Same H H'->NR K (Ow own) H H' v x->Q v H'
def tQT(K:Frag)(r:RT):TT:=λσ H Q=>∃own o R,SR K own H σ o/\r o R/\∀H' b,R b->Same H H'->Q b H'
def tQA(K:Frag)(n:Nat)(r:RA):TA:=λσ H Q=>∃own o R,SR K own H σ o/\r o R/\∀H' vs ts,R ts->ts.length=n->Same H H'->bV K (hd (Ow own) H') vs ts->Q vs H'
def QE(X:Cx)(e:Expr)(r:RE):Prop:=PE X e (tQ X.K r)
def QT(X:Cx)(e:Expr)(r:RT):Prop:=PT X e (tQT X.K r)
def QW(X:Cx)(e:Expr)(r:RT):Prop:=PW X e (tQT X.K r)
def QA(X:Cx)(es:List Expr)(r:RA):Prop:=PA X es (tQA X.K es.length r)
def PT.imp{X:Cx}{e:Expr}{t t':TT}(h:PT X e t)(i:∀σ H Q,t' σ H Q->t σ H Q):PT X e t':=λaa s σ H Q I q=>h aa s σ H Q I (i σ H Q q)
def PW.imp{X:Cx}{e:Expr}{t t':TT}(h:PW X e t)(i:∀σ H Q,t' σ H Q->t σ H Q):PW X e t':=λwh aa s σ H Q I q=>h wh aa s σ H Q I (i σ H Q q)
def PA.imp{X:Cx}{es:List Expr}{t t':TA}(h:PA X es t)(i:∀σ H Q,t' σ H Q->t σ H Q):PA X es t':=λp aa s σ H Q I q=>h p aa s σ H Q I (i σ H Q q)
section
variable{K:Frag}{own:zC}{H:Hp}{σ:L2.St}{o:List OT}
def tQ.mk{r:RE}{R:OT->Prop}{Q:VK}(h:SR K own H σ o)(hr:r o R)(k:∀H' v x,R x->Same H H'->Rep K (hd (Ow own) H') v (frz x)->Q v H'):tQ K r σ H Q :=
 ⟨own,o,R,h,hr,λH' v x rx E n=>k H' v x rx E (n.rep λb z=>(h.sole z).ne)⟩
def slot:List OT->Nat->OT
 |[],_=>.und
 |x::_,0=>x
 |_::l,n+1=>slot l n
theorem ig:∀{o:List OT}{i:Nat}{x:OT},slot o i=x->x≠.und->o[i]?=some x
 |[],_,_,e,n=>absurd e.symm n
 |_::_,0,_,e,_=>ZH some e
 |_::l,i+1,x,e,n=>by simpa using ig (o:=l) (i:=i) e n
end
def Ji(i:Nat):RE:=λo q=>match slot o i with|.fz t=>q (.fz t)|_=>False
def rC(t:T):RE:=λ_ q=>q (.fz t)
abbrev zi:Type:=T->T->(OT->Prop)->Prop
def rOp(g:zi)(a b:RE):RE:=λo q=>a o λx=>b o λy=>g (frz x) (frz y) q
def rUn(g:T->(OT->Prop)->Prop)(a:RE):RE:=λo q=>a o λx=>g (frz x) q
def sw(b:Bool)(p q:Prop):Prop:=match b with|true=>p|false=>q
def sw2{b:Bool}{p q:Prop}(h1:b=true->p)(h2:b=false->q):sw b p q:=by
 cases b
 .exact h2 rfl
 .exact h1 rfl
def swD{c:Prop}[Decidable c]{p q:Prop}(h1:c->p)(h2:¬c->q):sw (decide c) p q:=sw2 (λe=>h1 (of_decide_eq_true e)) λe=>h2 (of_decide_eq_false e)
def swT{b:Bool}{p q:Prop}(e:b=true)(h:p):sw b p q:=by subst e;exact h
def swF{b:Bool}{p q:Prop}(e:b=false)(h:q):sw b p q:=by subst e;exact h
section
variable{X:Cx}{a b c:Expr}{ra rb rc:RE}{pos:Pos}
def qv(i:Nat){x:Str}{pos:Pos}(hN:X.N[i]?=some x:=by rfl)(hv:pP X.env.scope x=true:=by rfl)(hd:zk x:=by decide)
 (a8:zw x:=by decide):QE X (.Name x pos) (Ji i):=(pv i hN hv hd a8).imp λσ H Q hP=>by
 obtain⟨own,o,R,h,hr,k⟩:=hP;unfold Ji at hr;cases e:slot o i with
 |fz t =>
  rw[e]at hr;obtain⟨u,q,r⟩:=h.get (ig e (by intro z;cases z));exact⟨u,q,k H u _ hr (.refl _) (NR.fz r)⟩
 |_=>rw[e]at hr;exact hr.elim
def qC{e:Expr}{v:V}{t:T}(h:PE X e (tC v))(r:∀F,Rep X.K F v t):QE X e (rC t):=h.imp λσ H Q hP=>by obtain⟨own,o,R,_,hr,k⟩:=hP;exact k H v _ hr (.refl _) (NR.fz (r _))
def bx{i j pos} : QE X (.Constant (.int i) j pos) (rC (.int i)):=qC Tf λ_=>.int _
def k_{b j pos} : QE X (.Constant (.bool b) j pos) (rC (.bl b)):=qC aen λ_=>.bl _
def iK{j pos} : QE X (.Constant .none j pos) (rC .non):=qC Y6 λ_=>.non
def j7{x j pos} : QE X (.Constant (.str x) j pos) (rC (.str x)):=qC Dp λ_=>.str _
def YW{x:Str}{v:V}{t:T}{pos:Pos}(hm:∃u,X.mg x=some u/\RelV v u)(r:∀F,Rep X.K F v t)(hg:Gl X x:=by rfl)(hd:zk x:=by decide):QE X (.Name x pos) (rC t):=qC (ZV hg hm hd) r
def GO(X:Cx)(f:Value->Value->Sem Value)(g:zi):Prop:=OpR X f λx y H Q=>∃S t u R,(∀b,S b->H b≠none)/\Rep X.K (hd S H) x t/\Rep X.K (hd S H) y u/\g t u R/\∀H' v z,R z->Same H H'->NR X.K S H H' v z->Q v H'
theorem q2{g:zi}{σ:L2.St}{H:Hp}{Q:VK}(h:tQ X.K (rOp g ra rb) σ H Q):tOp (λx y H Q=>∃S t u R,(∀b,S b->H b≠none)/\Rep X.K (hd S H) x t/\Rep X.K (hd S H) y u/\g t u R/\∀H' v z,R z->Same H H'->NR X.K S H H' v z->Q v H') (tQ X.K ra) (tQ X.K rb) σ H Q:=by
 obtain⟨own,o,R,h,hr,k⟩:=h;exact tQ.mk h hr λH1 v x q E1 r1=>tQ.mk (h.same E1) q λH2 w y q2 E2 r2=>⟨Ow own,_,_,R,λb z=>((h.same (E1.trans E2)).sole z).ne,r1.same (bN E2),r2,q2,λH' u z rz E3 n=>k H' u z rz (E1.trans (E2.trans E3)) (n.back (E1.trans E2))⟩
def bJ{op:Operator}{g:zi}(ho:GO X (binaryOp op) g)(ha:QE X a ra)(hb:QE X b rb):QE X (.BinOp a op b pos) (rOp g ra rb):=(aj7 ho ha hb).imp λ_ _ _=>q2
def mC{op:CmpOp}{g:zi}(ho:GO X (compareOp op) g)(ha:QE X a ra)(hb:QE X b rb)(hm:behindInMarks op b=false:=by exact ZD _):QE X (.Compare a [op] [b] pos) (rOp g ra rb):=(acs ho ha hb hm).imp λ_ _ _=>q2
def gI(g:Int->Int->OT):zi
 |.int i,.int j,q=>q (g i j)
 |_,_,_=>False
def GO.ints{f:Value->Value->Sem Value}{g:Int->Int->V}{t:Int->Int->T}(h:OpR X f (rI0 g))(r:∀i j F,Rep X.K F (g i j) (t i j)):GO X f (gI λi j=>.fz (t i j)):=h.imp λx y H Q hP=>by
 obtain⟨S,t,u,R,_,hx,hy,hg,k⟩:=hP;cases hx<;>try exact hg.elim
 cases hy<;>try exact hg.elim
 exact⟨_,_,rfl,rfl,k H _ _ hg (.refl _) (NR.fz (r _ _ _))⟩
def Dv:GO X (binaryOp .Sub) (gI λi j=>.fz (.int (i-j))):=.ints agc λ_ _ _=>.int _
def uz:GO X (compareOp .Lt) (gI λi j=>.fz (.bl (decide (i<j)))):=.ints ajA λ_ _ _=>.bl _
def HD:GO X (compareOp .LtE) (gI λi j=>.fz (.bl (decide (i<=j)))):=.ints akC λ_ _ _=>.bl _
def KJ:GO X (compareOp .Gt) (gI λi j=>.fz (.bl (decide (j<i)))):=.ints aiX λ_ _ _=>.bl _
def aek:GO X (compareOp .GtE) (gI λi j=>.fz (.bl (decide (j<=i)))):=.ints akG λ_ _ _=>.bl _
def am7:zi
 |.int i,.int j,q=>q (.fz (.int (i+j)))
 |.str a,.str b,q=>a.length+b.length<=sizeLine/\q (.fz (.str (a++b)))
 |.lst a,.lst b,q=>a.length+b.length<=sizeLine/\q (.l1 (a++b))
 |_,_,_=>False
def zG{S:Addr->Prop}{H H':Hp}{p:Addr}{xs:Ε}{ts:List T}(r:bV X.K (hd S H) xs ts)(E:Same H H')(n:H p=none)(e:H' p=some (.lst xs)):NR X.K S H H' (.ref p) (.l1 ts) :=
 NR.l1 n e (r.same (gW (λb z=>z.imp id λ(y:b=p)=>y ▸ n) E))
def cD:GO X (binaryOp .Add) am7:=λaa s σ H x y v u Q I rx ry hP=>by
 obtain⟨S,t,w,R,_,hx,hy,hg,k⟩:=hP;cases t<;>try exact hg.elim
 .cases hx;cases w<;>try exact hg.elim
  cases hy;exact agx aa s σ H _ _ v u Q I rx ry ⟨_,_,rfl,rfl,k H _ _ hg (.refl _) (NR.fz (.int _))⟩
 .cases hx;cases w<;>try exact hg.elim
  cases hy;exact aeb aa s σ H _ _ v u Q I rx ry ⟨_,_,rfl,rfl,hg.1,k H _ _ hg.2 (.refl _) (NR.fz (.str _))⟩
 .cases w<;>try exact hg.elim
  obtain⟨a,xs,rfl,e1,r1⟩:=hx.lstI;obtain⟨b,ys,rfl,e2,r2⟩:=hy.lstI;exact ad1 aa s σ H _ _ v u Q I rx ry ⟨a,b,xs,ys,rfl,rfl,(cI e1).2,(cI e2).2,by rw[r1.len,r2.len];exact hg.1,λp H' E n e=>k H' _ _ hg.2 E (zG (r1.app r2) E n e)⟩
def alR:zi
 |.int i,.int j,q=>(Bd i/\Bd j)/\q (.fz (.int (i*j)))
 |.lst a,.int j,q=>(-(2^63)<=j/\j<2^63/\a.length*j.toNat<=sizeLine)/\∀z,z=(List.replicate j.toNat a).flatten->q (.l1 z)
 |.str a,.int j,q=>(∃c,a=⟨#[c]⟩/\1<=j/\j<=1000/\∀z:Str,z.cps.toList=List.replicate j.toNat c->q (.fz (.str z)))
 |_,_,_=>False
def amI:zi
 |.int i,.int j,q=>(j≠0/\Bd j)/\q (.fz (.int (i.fdiv j)))
 |_,_,_=>False
def al5:zi
 |.int i,.int j,q=>0<j/\q (.fz (.int (i%j)))
 |_,_,_=>False
def ang:zi
 |.int i,.int j,q=>alb i j/\q (.fz (.int (i^j.toNat)))
 |_,_,_=>False
def mH:GO X (binaryOp .FloorDiv) amI:=abu.imp λx y H Q hP=>by
 obtain⟨S,t,u,R,_,hx,hy,hg,k⟩:=hP;cases hx<;>try exact hg.elim
 cases hy<;>try exact hg.elim
 exact⟨_,_,rfl,rfl,hg.1,k H _ _ hg.2 (.refl _) (NR.fz (.int _))⟩
def cj:GO X (binaryOp .Mod) al5:=aeY.imp λx y H Q hP=>by
 obtain⟨S,t,u,R,_,hx,hy,hg,k⟩:=hP;cases hx<;>try exact hg.elim
 cases hy<;>try exact hg.elim
 exact⟨_,_,rfl,rfl,hg.1,k H _ _ hg.2 (.refl _) (NR.fz (.int _))⟩
def Gr:GO X (binaryOp .Pow) ang:=aga.imp λx y H Q hP=>by
 obtain⟨S,t,u,R,_,hx,hy,hg,k⟩:=hP;cases hx<;>try exact hg.elim
 cases hy<;>try exact hg.elim
 exact⟨_,_,rfl,rfl,hg.1,k H _ _ hg.2 (.refl _) (NR.fz (.int _))⟩
def alK:T->(OT->Prop)->Prop
 |.int i,q=>q (.fz (.int (-i)))
 |_,_=>False
def zu(ha:QE X a ra):QE X (.UnaryOp .USub a pos) (rUn alK ra):=(akr afW ha).imp λσ H Q ⟨own,o,R,h,hr,k⟩=>tQ.mk h hr λH1 v x q E1 r1=>by
 revert r1 q
 generalize frz x=t;intro q r1;cases r1<;>try exact q.elim
 exact⟨_,rfl,k _ _ _ q E1 (NR.fz (.int _))⟩
def Vs:T->Option Bool
 |.non=>some true
 |.any=>none
 |.val v=>some (decide (v=.non))
 |_=>some false
def gIs(neg:Bool):zi:=λt u q=>match u,Vs t with
 |.non,some b=>q (.fz (.bl (xor neg b)))
 |_,_=>False
def RG{F:Hp}{K:Frag}{x:V}{t:T}{b:Bool}(h:Rep K F x t)(e:Vs t=some b):decide (x=.non)=b:=by
 cases h<;>cases e<;>first|rfl|(apply Zp;intro z;cases z)
def TX:GO X (compareOp .Is) (gIs false):=agP.imp λx y H Q hP=>by
 obtain⟨S,t,u,R,_,hx,hy,hg,k⟩:=hP;cases hy<;>try exact hg.elim
 unfold gIs at hg;cases e:Vs t with
 |none=>rw[e]at hg;exact hg.elim
 |some b=>rw[e]at hg;exact⟨rfl,k H _ _ hg (.refl _) (NR.fz (by rw[RG hx e,Bool.false_xor];exact .bl _))⟩
def Gi:GO X (compareOp .IsNot) (gIs true):=abY.imp λx y H Q hP=>by
 obtain⟨S,t,u,R,_,hx,hy,hg,k⟩:=hP;cases hy<;>try exact hg.elim
 unfold gIs at hg;cases e:Vs t with
 |none=>rw[e]at hg;exact hg.elim
 |some b=>rw[e]at hg;exact⟨rfl,k H _ _ hg (.refl _) (NR.fz (by rw[RG hx e,Bool.true_xor];exact .bl _))⟩
end
structure Hid(H:Hp)(S:Addr->Prop):Prop where
 sole:∀b,S b->YK H b
 ins:∀a C dx fs,S a->H a=some (.ins C dx fs)->S dx
 own:∀b x,S b->H b=some (.own x)->S x
def SR.mate{K:Frag}{own:zC}{H:Hp}{σ:L2.St}{o:List OT}(h:SR K own H σ o){j:Nat}{b:Addr}(hb:b∈own j):(∀C d f,H b=some (.ins C d f)->d∈own j)/\∀x,H b=some (.own x)->x∈own j:=by
 have nl:∀{xs:Ε},H b=some (.lst xs)->(∀C d f,H b=some (.ins C d f)->d∈own j)/\∀x,H b=some (.own x)->x∈own j:=λq=>⟨(λ_ _ _ e=>by rw[q]at e;cases e),(λ_ e=>by rw[q]at e;cases e)⟩;by_cases hj:j<o.length
 .have s:=h.sl j _ (aj hj);cases y:o[j]with
  |und=>rw[y]at s;rw[show own j=[]from s]at hb;cases hb
  |fz t=>rw[y]at s;rw[s.1]at hb;cases hb
  |l1 ts=>rw[y]at s;obtain⟨c,xs,_,w,q,_⟩:=s;rw[w]at hb;cases YR.mp hb;exact nl q
  |l2 tss =>
   rw[y]at s;obtain⟨c,bs,_,w1,_,q1,l,r⟩:=s;rw[w1]at hb;rcases YU.mp hb with z|z
   .exact nl (z ▸ q1)
   .obtain⟨i,hi⟩:=aV z;obtain⟨xs,q2,_⟩:=r i b _ hi (aj (l ▸ (ao.mp hi).1));exact nl q2
  |d1 ks ts=>rw[y]at s;obtain⟨c,xs,_,w,q,_⟩:=s;rw[w]at hb;cases YR.mp hb;exact⟨(λ_ _ _ e=>by rw[q]at e;cases e),(λ_ e=>by rw[q]at e;cases e)⟩
  |la c ts=>rw[y]at s;obtain⟨xs,_,w,q,_⟩:=s;rw[w]at hb;cases YR.mp hb;exact nl q
  |ob c d C' ks ts =>
   rw[y]at s;obtain⟨xs,_,w,q,q2,_⟩:=s;rw[w]at hb ⊢;rcases YU.mp hb with z|z
   .refine⟨λ_ _ _ e=>?_,λ_ e=>?_⟩
    .rw[z,q]at e;cases e;simp
    .rw[z,q]at e;cases e
   .cases YR.mp z;refine⟨λ_ _ _ e=>?_,λ_ e=>?_⟩
    .rw[q2]at e;cases e
    .rw[q2]at e;cases e;simp
 .obtain⟨xs,q⟩:=h.out j (Nat.not_lt.mp hj) b hb;exact nl q
def SR.hid{K:Frag}{own:zC}{H:Hp}{σ:L2.St}{o:List OT}(h:SR K own H σ o):Hid H (Ow own) :=
 ⟨λb z=>h.sole z,λa C dx fs ⟨j,z⟩ e=>⟨j,(h.mate z).1 C dx fs e⟩,λb x ⟨j,z⟩ e=>⟨j,(h.mate z).2 x e⟩⟩
def mrg(S:Addr->Prop)(H G:Hp):Hp:=λb=>open Classical in if S b then H b else G b
def xU{S:Addr->Prop}{H G:Hp}{b:Addr}(h:S b):mrg S H G b=H b:=by unfold mrg;rw[ZY h]
def lZ{S:Addr->Prop}{H G:Hp}{b:Addr}(h:¬S b):mrg S H G b=G b:=by unfold mrg;rw[ZZ h]
def spH(sp:Sp):Sp:=λvs H Q _=>∃S:Addr->Prop,Hid H S/\sp vs (hd S H) (λv G=>(∀b,S b->G b=none)->Q v (mrg S H G)) λ_ _ _=>False
section
variable{P:Program}{w:World}{K:Frag}{mg:Str->Ψ}{base:Heap}
def dI.hid{k:Nat}{f:Addr}{fd:FuncData}{ps:Θ}{sp:Sp}(F:dI P w K mg base CX0 k f fd ps sp):dI P w K mg base CX0 k f fd ps (spH sp):=by
 refine⟨λvs H Q E h=>?_,λA outer s H args us vs Q E hr e0 hb r h=>?_⟩
 .obtain⟨S,_,z⟩:=h;exact F.len vs _ _ _ z
 obtain⟨S,hS,z⟩:=h;have non:∀{b:Addr},H b=none->hd S H b=none:=λ{b}e=>by
  by_cases z:S b
  .exact n8 z
  .rw[cL z];exact e
 have eh:∀{b:Addr}{u:HO},S b->H b=some u->(∀xs,u≠.tup xs)/\(∀o v,u≠.frz o v)/\∀ps,u≠.tbl ps:=λ{b u}z e=>by
  obtain⟨o,q,w⟩:=hS.sole b z;rw[e]at q;cases q;rcases w with⟨_,rfl⟩|⟨_,rfl⟩|⟨_,_,_,rfl⟩|⟨_,rfl⟩<;>exact⟨λ_ z=>(nomatch z),λ_ _ z=>(nomatch z),λ_ z=>(nomatch z)⟩
 have e1:R8 P w K mg base A outer s (hd S H):=⟨e0.frames,e0.mod,λb o e=>⟨(e0.bs b o e).1,non (e0.bs b o e).2⟩,e0.bsz,e0.funs,λb hb=>non (e0.frf b hb),λb u e=>by
  obtain⟨nb,e'⟩:=cI e;refine(e0.hok b u e').stay (λ_ _ _ z=>z) (λd z=>?_) λd xs z=>?_
  .rw[cL λy=>nb (hS.own d b y z)];exact z
  .rw[cL λy=>(eh y z).1 xs rfl];exact z,e0.bare⟩
 refine codeAny_mono (F.run A outer s (hd S H) args us vs _ _ hr e1 hb r z) λres s' hs=>?_;cases res with
 |error e=>exact hs.elim
 |ok fl =>
  cases fl with
  |next=>exact False.elim hs
  |brk=>exact False.elim hs
  |cont=>exact False.elim hs
  |ret u =>
   obtain⟨v,G,os,bare,un,hok,rv,q⟩:=hs;have there:∀{b:Addr},S b->∃o,s.heap.get? b=some o:=λ{b}y=>by
    obtain⟨u,e,w⟩:=hS.sole b y;have x:=e0.hok b u e;rcases w with⟨xs,rfl⟩|⟨kk,rfl⟩|⟨C,d,f,rfl⟩|⟨y,rfl⟩
    .obtain⟨_,_,_,_,e2⟩:=x;exact⟨_,e2⟩
    .obtain⟨_,_,_,_,_,_,_,e2,_⟩:=x;exact⟨_,e2⟩
    .obtain⟨_,_,_,e2,_⟩:=x;exact⟨_,e2⟩
    .exact x
   have keep:∀{b:Addr}{o:Obj},S b->s.heap.get? b=some o->s'.heap.get? b=some o:=λ{b o}y e=>un.keep b o e (n8 y) (λz=>(hS.sole b y).ne (e0.frf b z)) (by simp);have bn:∀b,S b->G b=none:=λb y=>by
    obtain⟨o,ho⟩:=there y;exact un.free b o ho (n8 y) (by simp)
   have no':∀{b:Addr}{u:HO},G b=some u->¬S b:=λe z=>by rw[bn _ z]at e;cases e
   have di:∀{b:Addr}{u:HO},G b=some u->mrg S H G b=some u:=λe=>(lZ (no' e)).trans e;refine⟨v,mrg S H G,os,bare,⟨λb o e n=>un.keep b o e (non n),λb o e n=>un.slot b o e (non n),λb o e n z=>?_,un.there,λb xs e=>?_,λb o u e=>?_,λb ps e=>?_⟩,λb u e=>?_,rv,q bn⟩
   .rw[lZ λy=>(hS.sole b y).ne n];exact un.free b o e (non n) z
   .have n:¬S b:=λy=>(eh y e).1 xs rfl;exact di (un.tups b xs ((cL n).trans e))
   .have n:¬S b:=λy=>(eh y e).2.1 o u rfl;exact di (un.frzs b o u ((cL n).trans e))
   .have n:¬S b:=λy=>(eh y e).2.2 ps rfl;obtain⟨more,this⟩:=un.tbls b ps ((cL n).trans e);exact⟨more,di this⟩
   .by_cases z:S b
    .rw[xU z]at e;have x:=e0.hok b u e;obtain⟨u',e',w⟩:=hS.sole b z;rw[e]at e';cases e';rcases w with⟨xs,rfl⟩|⟨kk,rfl⟩|⟨C,d,f,rfl⟩|⟨y,rfl⟩
     .obtain⟨z1,its,n,r,e2⟩:=x;exact⟨z1,its,n,r,keep z e2⟩
     .obtain⟨z1,y,vs,r,ob,es,ep,e2,c⟩:=x;exact⟨z1,y,vs,r,ob,es,ep,keep z e2,c⟩
     .obtain⟨d1,z1,ne,e2,mA,⟨od,es,ep,e3,c⟩,r⟩:=x;have sd:=hS.ins b C d f z e;exact⟨(xU sd).trans d1,z1,ne,keep z e2,mA,⟨od,es,ep,keep sd e3,c⟩,r⟩
     .obtain⟨ob,e2⟩:=x;exact⟨ob,keep z e2⟩
    .rw[lZ z]at e;exact(hok b u e).stay (λ_ _ _ z=>z) (λd z=>di z) λd xs z=>di z
abbrev ST:=List T->(OT->Prop)->Prop
def spT(K:Frag)(S:ST):Sp:=λvs H Q _=>∃ts R,bV K H vs ts/\S ts R/\∀H' v x,R x->Same H H'->NR K (λ_=>False) H H' v x->Q v H'
abbrev OkT(P:Program)(w:World)(K:Frag)(mg:Str->Ψ)(base:Heap)(k:Nat)(x:Str)(ps:Θ)(S:ST):Prop:=OkF P w K mg base k x ps (spT K S)
end
section
variable{X:Cx}
def agn:RA:=λ_ q=>q []
def aeU(a:RE)(r:RA):RA:=λo q=>a o λx=>r o λts=>q (frz x::ts)
def bA:QA X [] agn:=jf.imp λσ H Q hP=>by obtain⟨own,o,R,h,hr,k⟩:=hP;exact k H [] [] hr rfl (.refl _) .nil
def tQA.mk{K:Frag}{own:zC}{H:Hp}{σ:L2.St}{o:List OT}{r:RA}{R:List T->Prop}{Q:Ε->Hp->Prop}(h:SR K own H σ o)(hr:r o R){n:Nat}(k:∀H' vs ts,R ts->ts.length=n->Same H H'->bV K (hd (Ow own) H') vs ts->Q vs H'):tQA K n r σ H Q:=⟨own,o,R,h,hr,k⟩
def bw{e:Expr}{es:List Expr}{a:RE}{r:RA}(ha:QE X e a)(hr:QA X es r)(hs:zb X e es:=by rfl):QA X (e::es) (aeU a r):=(cA ha hr hs).imp λσ H Q ⟨own,o,R,h,hr,k⟩ =>
 tQ.mk h hr λH1 v x q E1 r1=>tQA.mk (h.same E1) q λH2 vs ts q2 ln E2 r2=>k H2 (v::vs) (frz x::ts) q2 (ZH (· + 1) ln) (E1.trans E2) (.cons (r1.same (bN E2)) r2)
def aao(S:ST)(r:RA):RE:=λo q=>r o λts=>S ts q
def bH{p pos:Pos}{e:Expr}{es:List Expr}{r:RA}{x:Str}{k:Nat}{ps:Θ}{S:ST}(G:OkT X.prog X.w X.K X.mg X.base k x ps S)(ha:QA X (e::es) r)(hr:dh k X.A:=by exact dh.mono (by assumption) (by decide))(hg:Gl X x:=by rfl)(bz:zk x:=by decide)
 (he:zb X e es:=by rfl)(aE:zg X pos es:=by rfl):QE X (.Call (.Name x p) (e::es) [] pos) (aao S r):=by
 obtain⟨f,fd,F,b,hm,kp⟩:=G;refine(Cp (sp:=spH (spT X.K S)) ⟨f,fd,F.hid,b,hm,kp⟩ hr hg ha bz he aE).imp λσ H Q ⟨own,o,R,h,hr,k⟩=>tQA.mk h hr λH1 vs ts q _ E1 r1=>?_;have h1:=h.same E1;refine⟨Ow own,h1.hid,ts,R,r1,q,λG v x rx E n bn=>?_⟩;have EH:Same H1 (mrg (Ow own) H1 G):=λb u e=>by
  by_cases z:Ow own b
  .rw[xU z];exact e
  .rw[lZ z];exact E b u ((cL z).trans e)
 have EG:Same G (mrg (Ow own) H1 G):=λb u e=>by rw[lZ λz=>by rw[bn b z]at e;cases e];exact e
 refine k _ v x rx (E1.trans EH) (NR.back (H:=H1) ?_ E1);obtain⟨B,nb,s⟩:=n;have out:∀a∈B,¬Ow own a:=λa ha z=>(s.sole ha).ne (bn a z);refine⟨B,λa ha=>by have:=nb a ha;rwa[cL (out a ha)]at this,s.same (gW (λb z=>?_) EG) EG⟩;rcases z with z|z
 .exact .inr (bn b z)
 .exact .inl (.inr z)
end
def rB(a:RE):RT:=λo q=>a o λx=>match frz x with|.bl b=>q b|_=>False
def tru:T->(Bool->Prop)->Prop
 |.bl b,q=>q b
 |.int i,q=>q (i != 0)
 |.non,q=>q false
 |.lst ts,q=>q (!ts.isEmpty)
 |.tup ts,q=>q (!ts.isEmpty)
 |_,_=>False
def al8(a:RE):RT:=λo q=>a o λx=>tru (frz x) q
def agM(a b:RT):RT:=λo q=>a o λc=>sw c (b o q) (q false)
def rOr(a b:RT):RT:=λo q=>a o λc=>sw c (q true) (b o q)
def ane(a:RT):RT:=λo q=>a o λc=>q (!c)
def aeu(a b:RE):RE:=λo q=>a o λx=>match frz x with|.bl c=>sw c (b o q) (q (.fz (.bl false)))|_=>False
def aiu(a:RE):RE:=λo q=>a o λx=>match frz x with|.bl c=>q (.fz (.bl (!c)))|_=>False
def rIf(c:RT)(a b:RE):RE:=λo q=>c o λk=>sw k (a o q) (b o q)
def tQT.mk{K:Frag}{own:zC}{H:Hp}{σ:L2.St}{o:List OT}{r:RT}{R:Bool->Prop}{Q:Bool->Hp->Prop}(h:SR K own H σ o)(hr:r o R)(k:∀H' b,R b->Same H H'->Q b H'):tQT K r σ H Q:=⟨own,o,R,h,hr,k⟩
def Rep.isEmpty{K:Frag}{F:Hp}{xs:Ε}{ts:List T}(h:bV K F xs ts):xs.isEmpty=ts.isEmpty:=by cases h<;>rfl
def H_{c:Bool}{p q p' q':Prop}(h:sw c p q)(i:p->p')(j:q->q'):if c=true then p' else q':=by
 cases c
 .exact amo (j h)
 .exact am5 (i h)
section
variable{X:Cx}{a b c:Expr}{ra rb rc:RE}{qa qb qc:RT}{pos:Pos}{rest:List Expr}
def b_{op:CmpOp}{g:zi}(ho:GO X (compareOp op) g)(ha:QE X a ra)(hb:QE X b rb)(hm:behindInMarks op b=false:=by exact ZD _):QT X (.Compare a [op] [b] pos) (rB (rOp g ra rb)) :=
 (abZ ho ha hb hm).imp λσ H Q ⟨own,o,R,h,hr,k⟩=>q2 (ra:=ra) (rb:=rb) (tQ.mk h hr λH1 v x q E1 r1=>by
  revert r1 q
  generalize frz x=t;intro q r1;cases r1<;>try exact q.elim
  exact⟨_,rfl,k _ _ q E1⟩)
def dN(ha:QE X a ra)(he:∀b7,isTrue a X.env b7=(do let v <- b7;standAt a.pos;holding [v] (truthy v)):=by exact λ_=>rfl):QT X a (al8 ra):=(aaJ ha he).imp λσ H Q ⟨own,o,R,h,hr,k⟩=>tQ.mk h hr λH1 v x q E1 r1=>by
 revert r1 q
 generalize frz x=t;intro q r1;cases t<;>try exact q.elim
 .cases r1;exact⟨false,rfl,k _ _ q E1⟩
 .cases r1;exact⟨_,rfl,k _ _ q E1⟩
 .cases r1;exact⟨_,rfl,k _ _ q E1⟩
 .obtain⟨p,xs,rfl,e,r⟩:=r1.tupI;exact⟨_,.inr (.inl ⟨xs,cC.tup e,rfl⟩),by rw[Rep.isEmpty r];exact k _ _ q E1⟩
 .obtain⟨p,xs,rfl,e,r⟩:=r1.lstI;exact⟨_,.inl ⟨xs,.of (cI e).2,rfl⟩,by rw[Rep.isEmpty r];exact k _ _ q E1⟩
def dW(ha:QT X a qa):QT X (.UnaryOp .Not a pos) (ane qa):=(Y4 ha).imp λσ H Q hP=>by obtain⟨own,o,R,h,hr,k⟩:=hP;exact tQT.mk h hr λH1 b q E1=>k H1 _ q E1
def WT(ha:QT X a qa):QW X (.BoolOp .And [a] pos) qa:=pw_and1 ha
def iM(ha:QT X a qa):QW X (.BoolOp .Or [a] pos) qa:=pw_or1 ha
def ZP(ha:QT X a qa)(hb:QW X (.BoolOp .And (b::rest) pos) qb):QW X (.BoolOp .And (a::b::rest) pos) (agM qa qb):=(pw_and ha hb).imp λσ H Q hP=>by obtain⟨own,o,R,h,hr,k⟩:=hP;exact tQT.mk h hr λH1 c q E1=>H_ q (λq=>tQT.mk (h.same E1) q λH2 d q E2=>k H2 d q (E1.trans E2)) λq=>k H1 _ q E1
def jV(ha:QT X a qa)(hb:QW X (.BoolOp .Or (b::rest) pos) qb):QW X (.BoolOp .Or (a::b::rest) pos) (rOr qa qb):=(pw_or ha hb).imp λσ H Q hP=>by obtain⟨own,o,R,h,hr,k⟩:=hP;exact tQT.mk h hr λH1 c q E1=>H_ q (λq=>k H1 _ q E1) λq=>tQT.mk (h.same E1) q λH2 d q E2=>k H2 d q (E1.trans E2)
def QW.qt(h:QW X a qa):QT X a qa:=PW.pt h
def zj{op}(h:QE X a ra):QE X (.BoolOp op [a] pos) ra:=afl h
def xQ(ha:QE X a ra)(hb:QE X (.BoolOp .And (b::rest) pos) rb):QE X (.BoolOp .And (a::b::rest) pos) (aeu ra rb):=(afR ha hb).imp λσ H Q ⟨own,o,R,h,hr,k⟩=>tQ.mk h hr λH1 v x q E1 r1=>by
 revert r1 q
 generalize frz x=t;intro q r1;cases r1<;>try exact q.elim
 exact⟨_,rfl,H_ q (λq=>⟨own,o,R,h.same E1,q,λH2 v x q E2 n=>k H2 v x q (E1.trans E2) (n.back E1)⟩) λq=>k H1 _ _ q E1 (NR.fz (.bl _))⟩
def Y0(ha:QE X a ra):QE X (.UnaryOp .Not a pos) (aiu ra):=(afQ ha).imp λσ H Q ⟨own,o,R,h,hr,k⟩=>tQ.mk h hr λH1 v x q E1 r1=>by
 revert r1 q
 generalize frz x=t;intro q r1;cases r1<;>try exact q.elim
 exact⟨_,rfl,k H1 _ _ q E1 (NR.fz (.bl _))⟩
def Wx{c:Expr}(hc:QT X c qc)(ha:QE X a ra)(hb:QE X b rb):QE X (.IfExp c a b pos) (rIf qc ra rb):=(aam hc ha hb).imp λσ H Q ⟨own,o,R,h,hr,k⟩=>tQT.mk h hr λH1 c q E1 =>
 H_ q (λq=>⟨own,o,R,h.same E1,q,λH2 v x q E2 n=>k H2 v x q (E1.trans E2) (n.back E1)⟩) λq=>⟨own,o,R,h.same E1,q,λH2 v x q E2 n=>k H2 v x q (E1.trans E2) (n.back E1)⟩
def rCh(g g':zi)(a b c:RE):RE:=λo q=>a o λx=>b o λy=>g (frz x) (frz y) λz=>match frz z with|.bl k=>sw k (c o λw=>g' (frz y) (frz w) q) (q (.fz (.bl false)))|_=>False
def q3{op du:CmpOp}{g g':zi}(ho:GO X (compareOp op) g)(df:GO X (compareOp du) g'){σ:L2.St}{H:Hp}{Q:VK}(h:tQ X.K (rCh g g' ra rb rc) σ H Q):Us (λx y H Q=>∃S t u R,(∀b,S b->H b≠none)/\Rep X.K (hd S H) x t/\Rep X.K (hd S H) y u/\g t u R/\∀H' v z,R z->Same H H'->NR X.K S H H' v z->Q v H') (λx y H Q=>∃S t u R,(∀b,S b->H b≠none)/\Rep X.K (hd S H) x t/\Rep X.K (hd S H) y u/\g' t u R/\∀H' v z,R z->Same H H'->NR X.K S H H' v z->Q v H') (tQ X.K ra) (tQ X.K rb) (tQ X.K rc) σ H Q:=by
 obtain⟨own,o,R,h,hr,k⟩:=h;refine tQ.mk h hr λH1 v x q E1 r1=>tQ.mk (h.same E1) q λH2 w y q2 E2 r2=>?_;have h2:=h.same (E1.trans E2);refine⟨Ow own,_,_,_,λb z=>(h2.sole z).ne,r1.same (bN E2),r2,q2,λH3 u z rz E3 n=>?_⟩;have mn:=n.rep λb z=>(h2.sole z).ne
 revert mn rz
 generalize frz z=t;intro rz mn;cases mn<;>try exact rz.elim
 have h3:=h2.same E3;refine⟨_,rfl,H_ rz (λq=>tQ.mk h3 q λH4 w' z q4 E4 r4=>⟨Ow own,_,_,R,λb z=>((h3.same E4).sole z).ne,r2.same (bN (E3.trans E4)),r4,q4,λH' u z rz E5 n=>k H' u z rz (E1.trans (E2.trans (E3.trans (E4.trans E5)))) (n.back (E1.trans (E2.trans (E3.trans E4))))⟩) λq=>k H3 _ _ q (E1.trans (E2.trans E3)) (NR.fz (.bl _))⟩
def Ib{op du:CmpOp}{g g':zi}(ho:GO X (compareOp op) g)(df:GO X (compareOp du) g')(ha:QE X a ra)(hb:QE X b rb)(hc:QE X c rc)(hm:lastMarks [op,du] [b,c]=false:=by with_unfolding_all rfl):QE X (.Compare a [op,du] [b,c] pos) (rCh g g' ra rb rc):=(abv ho df ha hb hc hm).imp λ_ _ _=>q3 ho df
def Hl{op du:CmpOp}{g g':zi}(ho:GO X (compareOp op) g)(df:GO X (compareOp du) g')(ha:QE X a ra)(hb:QE X b rb)(hc:QE X c rc)(hm:lastMarks [op,du] [b,c]=false:=by with_unfolding_all rfl):QT X (.Compare a [op,du] [b,c] pos) (rB (rCh g g' ra rb rc)) :=
 (ZG ho df ha hb hc hm).imp λσ H Q ⟨own,o,R,h,hr,k⟩=>q3 (ra:=ra) (rb:=rb) (rc:=rc) ho df (tQ.mk h hr λH1 v x q E1 r1=>by
  revert r1 q
  generalize frz x=t;intro q r1;cases r1<;>try exact q.elim
  exact⟨_,rfl,k _ _ q E1⟩)
end
def nth{α:Type} : List α->Nat->Option α
 |[],_=>none
 |x::_,0=>some x
 |_::l,n+1=>nth l n
theorem qQ{α:Type} : ∀(l:List α)(n:Nat),nth l n=l[n]?
 |[],_=>rfl
 |_::_,0=>rfl
 |_::l,n+1=>by simpa[nth]using qQ l n
def ixT{α:Type}(ts:List α):Int->Option α
 |.ofNat n=>nth ts n
 |.negSucc n=>nth ts.reverse n
def U_{α:Type}(ts:List α)(i:Int):ixT ts i=atI ts i:=by
 unfold ixT atI ixN;cases i with
 |ofNat n =>
  show nth ts n=_;rw[qQ,ZY (show 0<=Int.ofNat n from X9 n)];by_cases h:n<ts.length
  .rw[ZY (by show(n:Int)<_;lia)];rfl
  .rw[ZZ (by show ¬(n:Int)<_;lia),aM (Nat.not_lt.mp h)];rfl
 |negSucc n =>
  show nth ts.reverse n=_;rw[qQ,ZZ (by lia)];by_cases h:n<ts.length
  .rw[ZY (by lia),List.getElem?_reverse h];show _=ts[_]?;rw[show(Int.negSucc n+(ts.length:Int)).toNat=ts.length-1-n by lia]
  .rw[ZZ (by lia),aM (by rw[List.length_reverse];exact VS h)];rfl
def bV.ix{K:Frag}{F:Hp}{xs:Ε}{ts:List T}{i:Int}{t:T}(h:bV K F xs ts)(e:ixT ts i=some t):∃x,atI xs i=some x/\Rep K F x t:=by
 rw[U_]at e;unfold atI at e ⊢;rw[h.len];cases j:ixN ts.length i with
 |none=>rw[j]at e;cases e
 |some n=>rw[j]at e;exact h.at_ e
def oT{α:Type}(x:Option α)(q:α->Prop):Prop:=match x with|some t=>q t|none=>False
def aer{α:Type}{x:Option α}{q:α->Prop}(h:oT x q):∃t,x=some t/\q t:=by
 cases x with
 |none=>exact h.elim
 |some t=>exact⟨t,rfl,h⟩
def gIx:zi
 |.tup ts,.int i,q=>oT (ixT ts i) λt=>q (.fz t)
 |.lst ts,.int i,q=>∃t,ixT ts i=some t/\q (.fz t)
 |.scr ts,.int i,q=>∃t,ixT ts i=some t/\q (.fz t)
 |.str s,.int i,q=>s.length<=sizeLine/\∃c,ixT s.cps.toList i=some c/\q (.fz (.str ⟨#[c]⟩))
 |_,_,_=>False
section
variable{X:Cx}{a b c e:Expr}{ra rb rc re:RE}{qa qb qc:RT}{pos p2:Pos}{lo hi:Option Expr}
def gix:IxR X (λx y H Q=>∃S t u R,(∀b,S b->H b≠none)/\Rep X.K (hd S H) x t/\Rep X.K (hd S H) y u/\gIx t u R/\∀H' v z,R z->Same H H'->NR X.K S H H' v z->Q v H'):=by
 refine(yh.or (agr.or afV)).imp λx y H Q h=>?_;obtain⟨S,t,u,R,_,hx,hy,hg,k⟩:=h;cases u with
 |int i=>?_
 |_=>cases t<;>exact hg.elim
 cases hy;cases t with
 |any=>exact hg.elim
 |non=>exact hg.elim
 |bl _=>exact hg.elim
 |int _=>exact hg.elim
 |val _=>exact hg.elim
 |dct _ _=>exact hg.elim
 |ins _ _ _=>exact hg.elim
 |str s=>?_
 |tup ts=>?_
 |lst ts=>?_
 |scr ts=>?_
 .cases hx;obtain⟨z,c,e,q⟩:=hg;rw[U_]at e;exact .inr (.inr ⟨_,_,c,rfl,rfl,z,e,k H _ _ q (.refl _) (NR.fz (.str _))⟩)
 .obtain⟨p,xs,rfl,e,r⟩:=hx.tupI;obtain⟨t,j,q⟩:=aer hg;obtain⟨v,e',r'⟩:=r.ix j;exact .inr (.inl ⟨p,xs,i,v,rfl,rfl,cC.tup e,e',k H _ _ q (.refl _) (NR.fz r')⟩)
 .obtain⟨p,xs,rfl,e,r⟩:=hx.lstI;obtain⟨t,j,q⟩:=hg;obtain⟨v,e',r'⟩:=r.ix j;exact .inl ⟨p,xs,_,v,rfl,rfl,.of (cI e).2,e',k H _ _ q (.refl _) (NR.fz r')⟩
 .obtain⟨p,xs,rfl,e,r⟩:=hx.scrI;obtain⟨t,j,q⟩:=hg;obtain⟨v,e',r'⟩:=r.ix j;exact .inl ⟨p,xs,_,v,rfl,rfl,cC.seq e,e',k H _ _ q (.refl _) (NR.fz r')⟩
def bI(ha:QE X a ra)(hb:QE X b rb)(hs:uh b:=by exact λ_ _=>rfl):QE X (.Subscript a b pos) (rOp gIx ra rb):=(KC gix ha hb hs).imp λ_ _ _=>q2
abbrev RO:=List OT->(Option Int->Prop)->Prop
def tQO(K:Frag)(r:RO):TO:=λσ H Q=>∃own o R,SR K own H σ o/\r o R/\∀H' b,R b->Same H H'->Q b H'
def QO(X:Cx)(e:Option Expr)(r:RO):Prop:=PO X e (tQO X.K r)
def am8:RO:=λ_ q=>q none
def akz(a:RE):RO:=λo q=>a o λx=>match frz x with|.int i=>q (some i)|_=>False
def PO.imp{X:Cx}{e:Option Expr}{t t':TO}(h:PO X e t)(i:∀σ H Q,t' σ H Q->t σ H Q):PO X e t':=λaa s σ H Q I q=>h aa s σ H Q I (i σ H Q q)
def Cv:QO X none am8:=adG.imp λσ H Q hP=>by obtain⟨own,o,R,h,hr,k⟩:=hP;exact k H _ hr (.refl _)
def gZ(h:QE X e re):QO X (some e) (akz re):=(ab5 h).imp λσ H Q ⟨own,o,R,h,hr,k⟩=>tQ.mk h hr λH1 v x q E1 r1=>by
 revert r1 q
 generalize frz x=t;intro q r1;cases r1<;>try exact q.elim
 exact⟨_,rfl,k _ _ q E1⟩
def gR{α:Type}(xs:List α)(lo hi:Option Int):List α:=(xs.drop (HT.sIx xs.length 0 lo)).take (HT.sIx xs.length xs.length hi-HT.sIx xs.length 0 lo)
def bV.cut{K:Frag}{F:Hp}{xs:Ε}{ts:List T}(h:bV K F xs ts)(lo hi:Option Int):bV K F (Xo xs lo hi) (gR ts lo hi):=by
 unfold Xo gR;rw[h.len];exact(h.drop _).take _
def gSl:T->Option Int->Option Int->(OT->Prop)->Prop
 |.lst ts,lo,hi,q=>q (.l1 (gR ts lo hi))
 |.scr ts,lo,hi,q=>q (.l1 (gR ts lo hi))
 |.str s,lo,hi,q=>s.length<=sizeLine/\q (.fz (.str (Fp s lo hi)))
 |_,_,_,_=>False
def rSl(a:RE)(lo hi:RO):RE:=λo q=>a o λx=>lo o λl=>hi o λu=>gSl (frz x) l u q
def jT{rl rh:RO}(he:QE X e re)(hl:QO X lo rl)(hu:QO X hi rh):QE X (.Subscript e (.Slice lo hi none p2) pos) (rSl re rl rh):=(YJ (acD.or agd) he hl hu).imp λσ H Q ⟨own,o,R,h,hr,k⟩ =>
 tQ.mk h hr λH1 v x q E1 r1=>⟨own,o,_,h.same E1,q,λH2 l q E2=>⟨own,o,_,(h.same E1).same E2,q,λH3 u q E3=>by
  have E:=E1.trans (E2.trans E3);have r1:=r1.same (bN (E2.trans E3))
  revert r1 q
  generalize frz x=t;intro q r1;cases t<;>try exact q.elim
  .cases r1;exact .inr ⟨_,rfl,q.1,k _ _ _ q.2 E (NR.fz (.str _))⟩
  .obtain⟨p,xs,rfl,e,r⟩:=r1.lstI;exact .inl ⟨p,xs,rfl,.of (cI e).2,λa ha=>k _ _ _ q (E.trans (Same.upd ha)) ((zG (r.cut l u) (Same.upd ha) ha bY).back E)⟩
  .obtain⟨p,xs,rfl,e,r⟩:=r1.scrI;exact .inl ⟨p,xs,rfl,cC.seq e,λa ha=>k _ _ _ q (E.trans (Same.upd ha)) ((zG (r.cut l u) (Same.upd ha) ha bY).back E)⟩⟩⟩
end
section
variable{X:Cx}{e:Expr}{es:List Expr}{r:RA}{pos:Pos}
def ajT(r:RA):RE:=λo q=>r o λts=>q (.fz (.tup ts))
def aiA(r:RA):RE:=λo q=>r o λts=>q (.l1 ts)
def cX{k:Nat}(h:QA X es r)(hz:es.length<=sizeLine:=by decide):QE X (.Tuple es k pos) (ajT r):=(aaS h).imp λσ H Q ⟨own,o,R,h,hr,k⟩=>tQA.mk h hr λH1 vs ts q ln E1 r1 =>
 ⟨by rw[r1.len,ln];exact hz,λp hp=>k _ _ _ q (E1.trans (Same.upd hp)) (NR.fz (.tup (.of (by rw[cL λz=>(h.sole z).ne (E1.free hp)];exact bY)) (r1.same (bN (Same.upd hp)))))⟩
def dz(h:QA X es r)(hz:es.length<=sizeLine:=by decide):QE X (.List es pos) (aiA r):=(Tv h).imp λσ H Q ⟨own,o,R,h,hr,k⟩=>tQA.mk h hr λH1 vs ts q ln E1 r1 =>
 ⟨by rw[r1.len,ln];exact hz,λp hp=>k _ _ _ q (E1.trans (Same.upd hp)) ((zG r1 (Same.upd hp) hp bY).back E1)⟩
def GC(X:Cx)(f:Value)(g:ST):Prop:=jq X f λxs H Q=>∃S ts R,(∀b,S b->H b≠none)/\bV X.K (hd S H) xs ts/\g ts R/\∀H' v z,R z->Same H H'->NR X.K S H H' v z->Q v H'
variable{x:Str}{p:Pos}{id Ty:String}{g:ST}
def bL(hc:GC X (.builtin id) g)(hm:X.mg x=none)(hv:bootBuiltins x=some (.builtin id))(ha:QA X (e::es) r)(hg:Gl X x:=by rfl)(hn:x≠"__name__":=by decide)(bz:zk x:=by decide)
 (he:zb X e es:=by rfl)(aE:zg X pos es:=by rfl):QE X (.Call (.Name x p) (e::es) [] pos) (aao g r) :=
 (QK hc hg hm hv ha hn bz he aE).imp λσ H Q hP=>by obtain⟨own,o,R,h,hr,k⟩:=hP;exact tQA.mk h hr λH1 vs ts q _ E1 r1=>⟨Ow own,ts,R,λb z=>((h.same E1).sole z).ne,r1,q,λH' v z rz E n=>k H' v z rz (E1.trans E) (n.back E1)⟩
def jJ(hc:GC X (.type Ty) g)(hm:X.mg x=none)(hv:bootBuiltins x=some (.type Ty))(ha:QA X (e::es) r)(hg:Gl X x:=by rfl)(hn:x≠"__name__":=by decide)(bz:zk x:=by decide)
 (he:zb X e es:=by rfl)(aE:zg X pos es:=by rfl):QE X (.Call (.Name x p) (e::es) [] pos) (aao g r) :=
 (YF hc hg hm hv ha hn bz he aE).imp λσ H Q hP=>by obtain⟨own,o,R,h,hr,k⟩:=hP;exact tQA.mk h hr λH1 vs ts q _ E1 r1=>⟨Ow own,ts,R,λb z=>((h.same E1).sole z).ne,r1,q,λH' v z rz E n=>k H' v z rz (E1.trans E) (n.back E1)⟩
def bV.one{K:Frag}{F:Hp}{xs:Ε}{t:T}(h:bV K F xs [t]):∃x,xs=[x]/\Rep K F x t:=by
 cases h with
 |cons a b=>cases b;exact⟨_,rfl,a⟩
def bV.two{K:Frag}{F:Hp}{xs:Ε}{t u:T}(h:bV K F xs [t,u]):∃x y,xs=[x,y]/\Rep K F x t/\Rep K F y u:=by
 cases h with
 |cons a b =>
  obtain⟨y,rfl,c⟩:=b.one;exact⟨_,y,rfl,a,c⟩
def g1(g:T->(OT->Prop)->Prop):ST:=λts q=>match ts with|[t]=>g t q|_=>False
def GC.one{f:Value}{g:T->(OT->Prop)->Prop}{r:Ε->Hp->VK->Prop}(h:jq X f r)(i:∀S t x H Q R,Rep X.K (hd S H) x t->g t R->(∀H' v z,R z->Same H H'->NR X.K S H H' v z->Q v H')->r [x] H Q):GC X f (g1 g):=h.imp λxs H Q hP=>by
 obtain⟨S,ts,R,_,rs,hg,k⟩:=hP
 match ts,hg with
 |[t],hg =>
  obtain⟨x,rfl,rx⟩:=rs.one;exact i S t x H Q R rx hg k
def anf:T->(OT->Prop)->Prop
 |.lst ts,q=>q (.fz (.int ts.length))
 |.tup ts,q=>q (.fz (.int ts.length))
 |.scr ts,q=>q (.fz (.int ts.length))
 |_,_=>False
def cH:GC X (.builtin "len") (g1 anf):=.one Pz λS t x H Q R rx hg k=>by
 cases t<;>try exact hg.elim
 .obtain⟨p,xs,rfl,e,r⟩:=rx.tupI;exact⟨p,xs,rfl,.inr (cC.tup e),k H _ _ hg (.refl _) (NR.fz (by rw[r.len];exact .int _))⟩
 .obtain⟨p,xs,rfl,e,r⟩:=rx.lstI;exact⟨p,xs,rfl,.inl (.of (cI e).2),k H _ _ hg (.refl _) (NR.fz (by rw[r.len];exact .int _))⟩
 .obtain⟨p,xs,rfl,e,r⟩:=rx.scrI;exact⟨p,xs,rfl,.inl (cC.seq e),k H _ _ hg (.refl _) (NR.fz (by rw[r.len];exact .int _))⟩
def am2:T->(OT->Prop)->Prop
 |.str s,q=>s.length<=sizeLine/\q (.fz (.int s.length))
 |_,_=>False
def alZ:T->(OT->Prop)->Prop
 |.dct ks _,q=>q (.fz (.int ks.length))
 |_,_=>False
def XD:jq X (.builtin "len") (λxs H Q=>∃p kvs,xs=[.ref p]/\Rd H p (.dK kvs)/\Q (.int kvs.length) H):=by
 intro aa s σ H xs us Q I r h;obtain⟨p,kvs,rfl,hp,q⟩:=h;obtain⟨u,rfl,rx⟩:=vals1 r;cases rx;have hok:kvs.length<=sizeLine/\(p==sysModules)=false/\∃vs,KV kvs vs/\s.heap.DictOf (jH X.prog X.w) p vs:=by
  rcases hp with hp|⟨o,hp⟩
  .exact I.hok p _ hp
  .exact(I.hok p _ hp).2
 obtain⟨hz,hS,vs,rr,m⟩:=hok;have hl:=uW;have a9:kvs.length=vs.length:=rr.length;exact call_len_dict hS m (by lia) ⟨.int kvs.length,H,I.tok _,⟨_,by rw[a9]⟩,q⟩
def Wi:GC X (.builtin "len") (g1 alZ):=.one XD λS t x H Q R rx hg k=>by
 cases t<;>try exact hg.elim
 obtain⟨p,xs,rfl,e,l,r⟩:=rx.dctI;exact⟨p,_,rfl,cC.rd e,k H _ _ hg (.refl _) (NR.fz (by rw[VV,l,Up];exact .int _))⟩
def am9:T->(OT->Prop)->Prop
 |.int i,q=>q (.fz (.int i.natAbs))
 |_,_=>False
def I8:GC X (.builtin "abs") (g1 am9):=.one aaA λS t x H Q R rx hg k=>by
 cases t<;>try exact hg.elim
 cases rx;exact⟨_,rfl,k H _ _ hg (.refl _) (NR.fz (by rw[afN];exact .int _))⟩
theorem bV.ints{K:Frag}{F:Hp} : ∀{xs:Ε}{ns:List Int},bV K F xs (ns.map T.int)->xs=ns.map V.int
 |_,[],.nil=>rfl
 |_,n::ns,.cons a b=>by cases a;rw[bV.ints b];rfl
theorem bV.bls{K:Frag}{F:Hp} : ∀{xs:Ε}{ns:List Bool},bV K F xs (ns.map T.bl)->xs=ns.map V.bl
 |_,[],.nil=>rfl
 |_,n::ns,.cons a b=>by cases a;rw[bV.bls b];rfl
theorem Di{K:Frag}{F:Hp} : ∀(ns:List Int),bV K F (ns.map V.int) (ns.map T.int)
 |[]=>.nil
 |_::ns=>.cons (.int _) (Di ns)
def alW:T->(OT->Prop)->Prop
 |.lst ts,q=>∃ns:List Int,ts=ns.map T.int/\q (.fz (.int ns.sum))
 |_,_=>False
def aa5(hc:X.calm=true):GC X (.builtin "sum") (g1 alW):=.one (Xf hc) λS t x H Q R rx hg k=>by
 cases t<;>try exact hg.elim
 obtain⟨p,xs,rfl,e,r⟩:=rx.lstI;obtain⟨ns,rfl,q⟩:=hg;exact⟨p,ns,rfl,(r.ints ▸ (cI e).2),k H _ _ q (.refl _) (NR.fz (.int _))⟩
def am4(f:List Bool->Bool):T->(OT->Prop)->Prop
 |.lst ts,q=>∃bs:List Bool,ts=bs.map T.bl/\q (.fz (.bl (f bs)))
 |_,_=>False
def abr(hc:X.calm=true):GC X (.builtin "all") (g1 (am4 λbs=>bs.all λb=>b)):=.one (Ye hc) λS t x H Q R rx hg k=>by
 cases t<;>try exact hg.elim
 obtain⟨p,xs,rfl,e,r⟩:=rx.lstI;obtain⟨ns,rfl,q⟩:=hg;exact⟨p,ns,rfl,(r.bls ▸ (cI e).2),k H _ _ q (.refl _) (NR.fz (.bl _))⟩
def anh:T->(OT->Prop)->Prop
 |.lst ts,q=>∃ns:List Int,ts=ns.map T.int/\ns.length<64/\∀ms:List Int,ms.Perm ns->ms.Pairwise (· <= ·)->q (.l1 (ms.map T.int))
 |_,_=>False
def X7:GC X (.builtin "sorted") (g1 anh):=.one Xl λS t x H Q R rx hg k=>by
 cases t<;>try exact hg.elim
 obtain⟨p,xs,rfl,e,r⟩:=rx.lstI;obtain⟨ns,rfl,l,q⟩:=hg;exact⟨p,ns,rfl,(r.ints ▸ (cI e).2),l,λms a ha m1 m2=>k _ _ _ (q ms m1 m2) (Same.upd ha) (zG (Di ms) (Same.upd ha) ha bY)⟩
def ajr:T->(OT->Prop)->Prop
 |.lst ts,q=>q (.l1 ts)
 |_,_=>False
def yu:GC X (.type "list") (g1 ajr):=.one S8 λS t x H Q R rx hg k=>by
 cases t<;>try exact hg.elim
 obtain⟨p,xs,rfl,e,r⟩:=rx.lstI;exact⟨p,xs,rfl,(cI e).2,λa ha=>k _ _ _ hg (Same.upd ha) (zG r (Same.upd ha) ha bY)⟩
def amO:T->(OT->Prop)->Prop
 |.int i,q=>q (.fz (.int i))
 |.bl b,q=>q (.fz (.int (if b then 1 else 0)))
 |_,_=>False
def ZM:GC X (.type "int") (g1 amO):=.one Xh λS t x H Q R rx hg k=>by
 cases t<;>try exact hg.elim
 .cases rx;exact .inr ⟨_,rfl,k H _ _ hg (.refl _) (NR.fz (.int _))⟩
 .cases rx;exact .inl ⟨_,rfl,k H _ _ hg (.refl _) (NR.fz (.int _))⟩
inductive Knd where
 |int|bool|str|list|tuple
def Knd.s:Knd->String
 |.int=>"int"
 |.bool=>"bool"
 |.str=>"str"
 |.list=>"list"
 |.tuple=>"tuple"
def isK:Knd->T->Option Bool
 |.int,.int _=>some true
 |.int,.bl _=>some true
 |.bool,.bl _=>some true
 |.str,.str _=>some true
 |.list,.lst _=>some true
 |.tuple,.tup _=>some true
 |_,.any=>none
 |_,.val _=>none
 |_,.scr _=>none
 |_,.ins _ _ _=>none
 |_,.dct _ _=>none
 |_,_=>some false
def agw(kd:Knd):GC X (.builtin "isinstance") (λts q=>match ts with|[t,.val v]=>v=.ty kd.s/\oT (isK kd t) λb=>q (.fz (.bl b))|_=>False):=by
 intro aa s σ H xs us Q I rs h;obtain⟨S,ts,R,_,rp,hg,k⟩:=h
 match ts,hg with
 |[t,.val v],hg =>
  obtain⟨x,y,rfl,rx,ry⟩:=rp.two;cases ry;obtain⟨rfl,hg⟩:=hg;obtain⟨b,j,q⟩:=aer hg;have hk:kd.s∈["bool","int","str","list","tuple","dict"]:=by cases kd<;>decide
  cases t with
  |tup ts =>
   obtain⟨p,ys,rfl,e,r⟩:=rx.tupI;have eb:b=Ml "tuple" kd.s:=by cases kd<;>cases j<;>decide
   exact Sx aa s σ H _ us Q I rs ⟨p,kd.s,ys,rfl,hk,cC.tup e,k H _ _ q (.refl _) (NR.fz (eb ▸ .bl _))⟩
  |lst ts =>
   obtain⟨p,ys,rfl,e,r⟩:=rx.lstI;have eb:b=Ml "list" kd.s:=by cases kd<;>cases j<;>decide
   exact uU aa s σ H _ us Q I rs ⟨_,kd.s,"list",rfl,hk,by show(match H p with|some (.lst _)=>some "list" |some (.tup _)=>some "tuple" |some (.dK _)=>some "dict" |_=>none)=_;rw[(cI e).2],k H _ _ q (.refl _) (NR.fz (eb ▸ .bl _))⟩
  |non =>
   cases rx;have eb:b=Ml "NoneType" kd.s:=by cases kd<;>cases j<;>decide
   exact uU aa s σ H _ us Q I rs ⟨_,kd.s,"NoneType",rfl,hk,rfl,k H _ _ q (.refl _) (NR.fz (eb ▸ .bl _))⟩
  |bl c =>
   cases rx;have eb:b=Ml "bool" kd.s:=by cases kd<;>cases j<;>decide
   exact uU aa s σ H _ us Q I rs ⟨_,kd.s,"bool",rfl,hk,rfl,k H _ _ q (.refl _) (NR.fz (eb ▸ .bl _))⟩
  |int i =>
   cases rx;have eb:b=Ml "int" kd.s:=by cases kd<;>cases j<;>decide
   exact uU aa s σ H _ us Q I rs ⟨_,kd.s,"int",rfl,hk,rfl,k H _ _ q (.refl _) (NR.fz (eb ▸ .bl _))⟩
  |str c =>
   cases rx;have eb:b=Ml "str" kd.s:=by cases kd<;>cases j<;>decide
   exact uU aa s σ H _ us Q I rs ⟨_,kd.s,"str",rfl,hk,rfl,k H _ _ q (.refl _) (NR.fz (eb ▸ .bl _))⟩
  |_=>cases kd<;>cases j
def ab7(kd:Knd)(a:RE):RE:=λo q=>a o λx=>oT (isK kd (frz x)) λb=>q (.fz (.bl b))
def mF(kd:Knd){a:Expr}{ra:RE}{y:Str}{p2:Pos}(ha:QE X a ra)(hm:X.mg "isinstance"=none)(k7:X.mg y=none)(ko:bootBuiltins y=some (.type kd.s))(hg2:Gl X y:=by rfl)(hg:Gl X "isinstance":=by rfl)(i7:y≠"__name__":=by decide)(pM:zk y:=by decide)
 (he:starEach (a::[.Name y p2]) X.env=(false,eval a X.env)::starEach [.Name y p2] X.env:=by rfl):QE X (.Call (.Name "isinstance" p) [a,.Name y p2] [] pos) (ab7 kd ra) :=
 (QK (agw kd) hg hm boot_isinstance (cA ha (cA (acz (v:=.ty kd.s) hg2 k7 ko rfl i7 pM) jf) he) (by decide) (by decide) he).imp λσ H Q ⟨own,o,R,h,hr,k⟩=>tQ.mk h hr λH1 v x q E1 r1 =>
  ⟨Ow own,[frz x,.val (.ty kd.s)],R,λb z=>((h.same E1).sole z).ne,.cons r1 (.cons (.val _) .nil),⟨rfl,q⟩,λH' v z rz E n=>k H' v z rz (E1.trans E) (n.back E1)⟩
end
structure DT where
 nx:List OT->Prop
 rt:OT->Prop
 bk:List OT->Prop:=λ_=>False
 ct:List OT->Prop:=λ_=>False
 xc:Addr->Θ->List T->Prop:=λ_ _ _=>False
abbrev RS:=DT->List OT->Prop
def zx(X:Cx):XK:=λC d H'=>(∀aa σ H s a s' B,Inv X aa σ H s->Fly X.prog X.w X.stack H s a C H' s' B d->X.xe (.ref a) s') /\
 ∀aa σ H s a c,C=.ref c->Inv X aa σ H s->H a=some (XN a c d)->X.s₀.heap.objs.size<=a->out H a=H'->X.xe (.ref a) s
structure Lnk(K:Frag)(Z:XK)(F:Hp)(E:DT)(D:Ends):Prop where
 nx:∀own H σ o,E.nx o->Same F (hd (Ow own) H)->SR K own H σ o->D.nx σ H
 rt:∀S H v x B,E.rt x->Same F (hd S H)->Slo K (hd S H) H (some v) B x->(∀a∈B,S a)->D.rt v H
 bk:∀own H σ o,E.bk o->Same F (hd (Ow own) H)->SR K own H σ o->D.bk σ H
 ct:∀own H σ o,E.ct o->Same F (hd (Ow own) H)->SR K own H σ o->D.ct σ H
 xc:∀H C d ks vs ts,E.xc C ks ts->Same F H->H d=some (.xd (ks.zip vs))->bV K H vs ts->Z (.ref C) (some d) H
def Lnk.step{K:Frag}{Z:XK}{F F':Hp}{E:DT}{D:Ends}(h:Lnk K Z F E D)(S:Same F F'):Lnk K Z F' E D :=
 ⟨λown H σ o e s=>h.nx own H σ o e (S.trans s),λT H v x B e s=>h.rt T H v x B e (S.trans s),λown H σ o e s=>h.bk own H σ o e (S.trans s),λown H σ o e s=>h.ct own H σ o e (S.trans s),λH C d ks vs ts e s=>h.xc H C d ks vs ts e (S.trans s)⟩
def tQS(X:Cx)(r:RS):TS:=λD σ H=>∃own o E,SR X.K own H σ o/\r E o/\Lnk X.K (zx X) (hd (Ow own) H) E D
def QS(X:Cx)(st:Stmt)(r:RS):Prop:=PS X st (tQS X r)
def QSs(X:Cx)(st:List Stmt)(r:RS):Prop:=PSs X st (tQS X r)
def PS.imp{X:Cx}{st:Stmt}{t t':TS}(h:PS X st t)(i:∀D σ H,t' D σ H->t D σ H):PS X st t':=λaa s σ H D I q=>h aa s σ H D I (i D σ H q)
def PSs.imp{X:Cx}{st:List Stmt}{t t':TS}(h:PSs X st t)(i:∀D σ H,t' D σ H->t D σ H):PSs X st t':=λaa s σ H D I q=>h aa s σ H D I (i D σ H q)
def aew:RS:=λE o=>E.nx o
def d9(a b:RS):RS:=λE o=>a { E with nx:=b E } o
def aio(i:Nat)(a:RE):RS:=λE o=>a o λx=>E.nx (o.set i (.fz (frz x)))
def afJ(i:Nat)(a:RE):RS:=λE o=>a o λx=>E.nx (o.set i x)
def aj1(a:RE):RS:=λE o=>a o λ_=>E.nx o
def aeZ(a:RE):RS:=λE o=>a o E.rt
def aeT(i:Nat):RS:=λE o=>match slot o i with|.und=>False|x=>E.rt x
def acL(c:RT)(a b:RS):RS:=λE o=>c o λk=>sw k (a E o) (b E o)
def agS:RS:=λ_ _=>False
def ai7(i:Nat)(a:RS):RS:=λE o=>match slot o i with|.und=>False|x=>a E (o.set i (.fz (frz x)))
section
variable{K:Frag}{own:zC}{H H':Hp}{σ:L2.St}{o:List OT}
def SR.putA(h:SR K own H σ o)(E:Same H H'){v:V}{x:OT}(n:NR K (Ow own) H H' v x)(i:Nat):∃am,SR K am H' (σ.set i (some v)) (o.set i x)/\Same (hd (Ow own) H) (hd (Ow am) H'):=by
 by_cases hi:i<o.length
 .exact h.put E n hi
 .rw[Zyu (Nat.not_lt.mp hi),Zyu (h.len ▸ Nat.not_lt.mp hi)];exact⟨own,h.same E,bN E⟩
def NR.frz{S:Addr->Prop}{v:V}{x:OT}(n:NR K S H H' v x)(hs:∀b,S b->H b≠none):NR K S H H' v (.fz (L2.frz x)):=NR.fz (n.rep hs)
def Slo.val{F:Hp}{v:Option V}{A:Φ}{x:OT}(h:Slo K F H v A x)(n:x≠.und):∃u,v=some u:=by
 cases x with
 |und=>exact absurd rfl n
 |fz t=>exact⟨_,h.2.choose_spec.1⟩
 |l1 ts=>obtain⟨a,xs,e,_⟩:=h;exact⟨_,e⟩
 |l2 ts=>obtain⟨a,xs,e,_⟩:=h;exact⟨_,e⟩
 |d1 ks ts=>obtain⟨a,xs,e,_⟩:=h;exact⟨_,e⟩
 |ob a d C ks ts=>obtain⟨xs,e,_⟩:=h;exact⟨_,e⟩
 |la a ts=>obtain⟨xs,e,_⟩:=h;exact⟨_,e⟩
def SR.val(h:SR K own H σ o){i:Nat}{x:OT}(e:slot o i=x)(n:x≠.und):∃u,σ[i]?=some (some u)/\Slo K (hd (Ow own) H) H (some u) (own i) x:=by
 have s:=h.sl i x (ig e n);obtain⟨u,hu⟩:=s.val n;rw[hu]at s;refine⟨u,?_,s⟩;cases z:σ[i]? with
 |none=>rw[z]at hu;cases hu
 |some w=>rw[z]at hu;exact ZH some hu
end
section
variable{X:Cx}{st:Stmt}{sts:List Stmt}{a b:RS}{e:Expr}{re:RE}{pos:Pos}
def bR:QSs X [] aew:=VD.imp λD σ H hP=>by obtain⟨own,o,E,h,hr,L⟩:=hP;exact L.nx own H σ o hr (.refl _) h
def amh{D:Ends}{σ:L2.St}{H:Hp}(h:tQS X (d9 a b) D σ H):Xi (tQS X a) (tQS X b) D σ H:=by
 obtain⟨own,o,E,h,hr,L⟩:=h;exact⟨own,o,_,h,hr,λam H' σ' o' q S h'=>⟨am,o',E,h',q,L.step S⟩,L.rt,L.bk,L.ct,L.xc⟩
def bC(h1:QS X st a)(h2:QSs X sts b):QSs X (st::sts) (d9 a b):=(wN h1 h2).imp λ_ _ _=>amh
def bG(h:QS X st a):QSs X [st] a:=pZ h
def bQ(i:Nat){x:Str}{ay:Pos}(he:QE X e re)(hN:X.N.Nodup:=by assumption)(hx:Loc X.env.scope x:=by first|exact .inl rfl|exact .inr rfl)(hi:X.N[i]?=some x:=by rfl)(hs:swapsWith e (some (.Name x ay)) pos.line X.env=pure false:=by rfl)(hf:zd X x:=by first|exact .inl rfl|exact .inr rfl|assumption) :
  QS X (.Assign [.Name x ay] e pos) (aio i re):=(abn hN hi hx he hs hf).imp λD σ H ⟨own,o,E,h,hr,L⟩=>⟨own,o,_,h,hr,λH' v y q S n=>by
 obtain⟨am,h',S'⟩:=h.putA S (n.frz λb z=>(h.sole z).ne) i;exact L.nx am H' _ _ q S' h'⟩
def jL(i:Nat){x:Str}{ay:Pos}(he:QE X e re)(hN:X.N.Nodup:=by assumption)(hx:Loc X.env.scope x:=by first|exact .inl rfl|exact .inr rfl)(hi:X.N[i]?=some x:=by rfl)(hs:swapsWith e (some (.Name x ay)) pos.line X.env=pure false:=by rfl)(hf:zd X x:=by first|exact .inl rfl|exact .inr rfl|assumption) :
  QS X (.Assign [.Name x ay] e pos) (afJ i re):=(abn hN hi hx he hs hf).imp λD σ H ⟨own,o,E,h,hr,L⟩=>⟨own,o,_,h,hr,λH' v y q S n=>by
 obtain⟨am,h',S'⟩:=h.putA S n i;exact L.nx am H' _ _ q S' h'⟩
def lN(he:QE X e re)(hs:swapsWith e none pos.line X.env=pure false:=by rfl):QS X (.Expr e pos) (aj1 re):=(iY he hs).imp λD σ H hP=>by obtain⟨own,o,E,h,hr,L⟩:=hP;exact⟨own,o,_,h,hr,λH' v y q S n=>L.nx own H' σ o q (bN S) (h.same S)⟩
def bM(he:QE X e re):QS X (.Return (some e) pos) (aeZ re):=(zO he).imp λD σ H ⟨own,o,E,h,hr,L⟩=>⟨own,o,_,h,hr,λH' v y q S n=>by
 obtain⟨B,nb,s⟩:=n;exact L.rt _ H' v y B q (gW (λb z=>z.imp id (nb b)) S) s λa ha=>.inr ha⟩
def oH(i:Nat){x:Str}{p:Pos}(hN:X.N[i]?=some x:=by rfl)(hv:pP X.env.scope x=true:=by rfl)(hd:zk x:=by decide)(a8:zw x:=by decide):QS X (.Return (some (.Name x p)) pos) (aeT i):=(zO (pv i hN hv hd a8)).imp λD σ H hP=>by
 obtain⟨own,o,E,h,hr,L⟩:=hP;have hr:E.rt (slot o i)/\slot o i≠.und:=by
  unfold aeT at hr;cases e:slot o i<;>rw[e]at hr<;>first|exact hr.elim|exact⟨hr,λz=>by cases z⟩
 obtain⟨u,e,s⟩:=h.val rfl hr.2;exact⟨u,e,L.rt (Ow own) H u _ _ hr.1 (.refl _) s λa ha=>⟨i,ha⟩⟩
def cB{c:Expr}{ss ts:List Stmt}{qc:RT}(hc:QT X c qc)(ha:QSs X ss a)(hb:QSs X ts b):QS X (.If c ss ts pos) (acL qc a b):=(aeK hc ha hb).imp λD σ H ⟨own,o,E,h,hr,L⟩=>tQT.mk h hr λH1 c q E1 =>
 H_ q (λq=>⟨own,o,E,h.same E1,q,L.step (bN E1)⟩) λq=>⟨own,o,E,h.same E1,q,L.step (bN E1)⟩
def f9:QS X st agS:=aaX.imp λD σ H hP=>by obtain⟨own,o,E,h,hr,L⟩:=hP;exact hr
def CP(i:Nat)(hs:QS X st a):QS X st (ai7 i a):=PS.imp hs λD σ H hP=>by
 obtain⟨own,o,E,h,hr,L⟩:=hP;have hr:a E (o.set i (.fz (frz (slot o i))))/\slot o i≠.und:=by
  unfold ai7 at hr;cases e:slot o i<;>rw[e]at hr<;>first|exact hr.elim|exact⟨hr,λz=>by cases z⟩
 obtain⟨u,e1,s⟩:=h.val rfl hr.2;obtain⟨am,h',S⟩:=h.frz (ig rfl hr.2) e1;exact⟨am,_,E,h',hr.1,L.step S⟩
def vN{S:Addr->Prop}{H:Hp}{D:Addr}{u:HO}(h:S D):hd S (upd H D u)=hd S H:=funext λb=>by
 by_cases z:S b
 .rw[n8 z,n8 z]
 .rw[cL z,cL z,bO λ(e:b=D)=>z (e.symm ▸ h)]
def asL:OT->Option (List T×(List T->OT))
 |.l1 ts=>some (ts,.l1)
 |.la a ts=>some (ts,.la a)
 |_=>none
def onL(x:OT)(k:List T->(List T->OT)->Prop):Prop:=match asL x with|some (ts,c)=>k ts c|none=>False
def Dl{x:OT}{k:List T->(List T->OT)->Prop}(h:onL x k):∃ts c,k ts c/\((x=.l1 ts/\c=.l1)\/∃a,x=.la a ts/\c=.la a):=by
 cases x with
 |l1 ts=>exact⟨ts,_,h,.inl ⟨rfl,rfl⟩⟩
 |la a ts=>exact⟨ts,_,h,.inr ⟨a,rfl,rfl⟩⟩
 |_=>exact h.elim
def amd(i:Nat)(a:RE):RS:=λE o=>onL (slot o i) λts c=>a o λy=>ts.length<sizeLine/\E.nx (o.set i (c (ts++[frz y])))
def SR.l1{K:Frag}{own:zC}{H:Hp}{σ:L2.St}{o:List OT}(h:SR K own H σ o){i:Nat}{ts:List T}{c:List T->OT}(e:(slot o i=.l1 ts/\c=.l1)\/∃a,slot o i=.la a ts/\c=.la a):∃l xs,σ[i]?=some (some (.ref l))/\own i=[l]/\H l=some (.lst xs)/\bV K (hd (Ow own) H) xs ts/\∀(H':Hp)(ys:Ε)us,H' l=some (.lst ys)->bV K (hd (Ow own) H') ys us->Slo K (hd (Ow own) H') H' (some (.ref l)) [l] (c us):=by
 rcases e with⟨e,rfl⟩|⟨a,e,rfl⟩
 .obtain⟨u,e1,l,xs,e2,e3,e4,r⟩:=h.val e (by intro z;cases z);cases e2;exact⟨l,xs,e1,e3,e4,r,λH' ys us a b=>⟨l,ys,rfl,rfl,a,b⟩⟩
 .obtain⟨u,e1,xs,e2,e3,e4,r⟩:=h.val e (by intro z;cases z);cases e2;exact⟨a,xs,e1,e3,e4,r,λH' ys us a b=>⟨ys,rfl,rfl,a,b⟩⟩
def Gy{o:List OT}{i:Nat}{ts:List T}{c:List T->OT}(e:(slot o i=.l1 ts/\c=.l1)\/∃a,slot o i=.la a ts/\c=.la a):∃x,o[i]?=some x:=by
 rcases e with⟨e,_⟩|⟨a,e,_⟩
 .exact⟨_,ig e (by intro z;cases z)⟩
 .exact⟨_,ig e (by intro z;cases z)⟩
def SR.chg1{K:Frag}{own:zC}{H:Hp}{σ:L2.St}{o:List OT}(h:SR K own H σ o){i:Nat}{us:List T}{c:List T->OT}(e:∃x,o[i]?=some x){l:Addr}{ys:Ε}(eσ:σ[i]?=some (some (.ref l)))(eo:own i=[l])(sl:∀(H':Hp)(ys:Ε)us,H' l=some (.lst ys)->bV K (hd (Ow own) H') ys us->Slo K (hd (Ow own) H') H' (some (.ref l)) [l] (c us))(r:bV K (hd (Ow own) H) ys us):SR K own (upd H l (.lst ys)) σ (o.set i (c us))/\Same (hd (Ow own) H) (hd (Ow own) (upd H l (.lst ys))):=by
 obtain⟨x,e⟩:=e;refine h.chg e (λb u hb e=>(bO λz=>hb (by rw[eo,z];simp)).trans e) ?_;rw[eσ,eo];exact sl _ ys us bY (by rw[vN ⟨i,by rw[eo];simp⟩];exact r)
def tY(i:Nat){x:Str}{ag af p:Pos}(he:QE X e re)(hN:X.N[i]?=some x:=by rfl)(hv:pP X.env.scope x=true:=by rfl)(br:zk x:=by decide)(a8:zw x:=by decide)
 (hb:attributeBase (.Name x p) "append" X.env (eval (.Name x p) X.env)=eval (.Name x p) X.env:=by rfl)
 (hf:zo X af e:=by rfl)
 (hl:zD ag af:=by rfl)(bj:zb X e []:=by rfl)(hp:zg X af []:=by rfl)
 (hs:swapsWith (.Call (.Attribute (.Name x p) "append" ag) [e] [] af) none pos.line X.env=pure false:=by rfl) :
  QS X (.Expr (.Call (.Attribute (.Name x p) "append" ag) [e] [] af) pos) (amd i re):=(iY (N5 (pv i hN hv br a8) (cA he jf bj) hb hf hl bj hp) hs).imp λD σ H hP=>by
 obtain⟨own,o,E,h,hr,L⟩:=hP;obtain⟨ts,c,hr,es⟩:=Dl hr;obtain⟨l,xs,e1,e2,e3,r,sl⟩:=h.l1 es;refine⟨_,e1,l,xs,rfl,e3,tQ.mk h hr λH1 v y q E1 r1=>⟨v,xs,rfl,E1 _ _ e3,by rw[r.len];exact q.1,?_⟩⟩;obtain⟨h',S⟩:=(h.same E1).chg1 (Gy es) e1 e2 sl ((r.same (bN E1)).app (.cons r1 .nil));exact L.nx own _ σ _ q.2 ((bN E1).trans S) h'
def am6(i:Nat)(a b:RE):RS:=λE o=>onL (slot o i) λts c=>a o λy=>b o λk=>(match frz k with|.int j=>∃n,ixN ts.length j=some n/\E.nx (o.set i (c (ts.set n (frz y))))|_=>False)
def wO(i:Nat){x:Str}{k:Expr}{rk:RE}{ax p:Pos}(he:QE X e re)(hk:QE X k rk)(hN:X.N[i]?=some x:=by rfl)(hv:pP X.env.scope x=true:=by rfl)(br:zk x:=by decide)(a8:zw x:=by decide)
 (ha:∀v,assign (.Subscript (.Name x p) k ax) X.env v=(do
   let ov <- holding [v] (eval (.Name x p) X.env)
   let iv <- holding [v,ov] (eval k X.env)
   standAt ax
   holding [v,ov,iv] (setItem ov iv v)
   release [v,ov,iv] []):=by intro _;rfl)
 (hs:swapsWithSole [.Subscript (.Name x p) k ax] e pos.line X.env=pure false:=by rfl)(hw:swappedStores [.Subscript (.Name x p) k ax] e X.env=pure none:=by rfl)
 (h1:(assignEach [.Subscript (.Name x p) k ax] X.env).map (·.2)=[assign (.Subscript (.Name x p) k ax) X.env]:=by rfl):QS X (.Assign [.Subscript (.Name x p) k ax] e pos) (am6 i re rk):=(Tj he (abG (pv i hN hv br a8) hk set_list ha) hs hw h1).imp λD σ H hP=>by
 obtain⟨own,o,E,h,hr,L⟩:=hP;obtain⟨ts,c,hr,es⟩:=Dl hr;obtain⟨l,xs,e1,e2,e3,r,sl⟩:=h.l1 es;refine tQ.mk h hr λH1 v y q E1 r1=>⟨_,e1,tQ.mk (h.same E1) q λH2 w z q E2 r2=>?_⟩;have r1:=r1.same (bN E2)
 revert r2 q
 generalize frz z=t;intro q r2;cases t<;>try exact q.elim
 cases r2;obtain⟨n,en,q⟩:=q;have b5:=E1.trans E2;refine⟨l,xs,_,n,rfl,rfl,b5 _ _ e3,by rw[r.len];exact en,?_⟩;obtain⟨h',S⟩:=(h.same b5).chg1 (Gy es) e1 e2 sl (bV.set r1 n (r.same (bN b5)));exact L.nx own _ σ _ q ((bN b5).trans S) h'
def alO(i:Nat)(b:RE):RE:=λo q=>onL (slot o i) λts _=>b o λy=>(match frz y with|.int j=>∃t,ixT ts j=some t/\q (.fz t)|_=>False)
def nG(i:Nat){x:Str}{p:Pos}{b:Expr}{rb:RE}(hb:QE X b rb)(hN:X.N[i]?=some x:=by rfl)(hv:pP X.env.scope x=true:=by rfl)(br:zk x:=by decide)
 (a8:zw x:=by decide)(hs:uh b:=by exact λ_ _=>rfl):QE X (.Subscript (.Name x p) b pos) (alO i rb):=(KC yh (pv i hN hv br a8) hb hs).imp λσ H Q hP=>by
 obtain⟨own,o,R,h,hr,k⟩:=hP;obtain⟨ts,c,hr,es⟩:=Dl hr;obtain⟨a,xs,e1,e2,e3,r,sl⟩:=h.l1 es;refine⟨_,e1,tQ.mk h hr λH1 v y q E1 r1=>?_⟩
 revert r1 q
 generalize frz y=t;intro q r1;cases t<;>try exact q.elim
 cases r1;obtain⟨t,j,q⟩:=q;obtain⟨v,e',r'⟩:=r.ix j;exact⟨a,xs,_,v,rfl,rfl,.of (E1 _ _ e3),e',k H1 _ _ q E1 (NR.fz (r'.same (bN E1)))⟩
def aep(i:Nat)(f:Int->Int->Int)(a:RE):RS:=λE o=>match slot o i with|.fz (.int k)=>a o λy=>(match frz y with|.int j=>E.nx (o.set i (.fz (.int (f k j))))|_=>False)|_=>False
def afa(i:Nat){x:Str}{op:Operator}{f:Int->Int->Int}{ay:Pos}(ho:PIp X op (ipI f))(he:QE X e re)(hN:X.N.Nodup:=by assumption)(hx:Loc X.env.scope x:=by first|exact .inl rfl|exact .inr rfl)(hi:X.N[i]?=some x:=by rfl)(hf:zd X x:=by first|exact .inl rfl|exact .inr rfl|assumption):QS X (.AugAssign (.Name x ay) op e pos) (aep i f re):=(afu hN hi hx he ho hf).imp λD σ H hP=>by
 obtain⟨own,o,E,h,hr,L⟩:=hP;unfold aep at hr;cases es:slot o i with
 |fz t =>
  rw[es]at hr;cases t<;>try exact hr.elim
  obtain⟨u,e1,r⟩:=h.get (ig es (by intro z;cases z));cases r;refine⟨_,e1,tQ.mk h hr λH1 v y q E1 r1=>?_⟩
  revert r1 q
  generalize frz y=t;intro q r1;cases t<;>try exact q.elim
  cases r1;refine⟨_,_,rfl,rfl,?_⟩;obtain⟨am,h',S⟩:=(h.same E1).putA (.refl _) (NR.fz (.int _)) i;exact L.nx am _ _ _ q ((bN E1).trans S) h'
 |_=>rw[es]at hr;exact hr.elim
def Du(n:Nat)(own am:zC)(σ σ':L2.St):Prop:=(∀j,am j=own j\/(j<n/\am j=[]))/\σ'.length=σ.length/\∀j,n<=j->σ'[j]?=σ[j]?
def Du.refl{n:Nat}{own:zC}{σ:L2.St} : Du n own own σ σ:=⟨λ_=>.inl rfl,rfl,λ_ _=>rfl⟩
def Du.trans{n:Nat}{own own1 b6:zC}{σ σ1 σ2:L2.St}(a:Du n own own1 σ σ1)(b:Du n own1 b6 σ1 σ2):Du n own b6 σ σ2 :=
 ⟨λj=>(b.1 j).elim (λe=>(a.1 j).imp (λz=>e.trans z) λz=>⟨z.1,e.trans z.2⟩) .inr,b.2.1.trans a.2.1,λj hj=>(b.2.2 j hj).trans (a.2.2 j hj)⟩
def Du.same{n:Nat}{own am:zC}{σ σ':L2.St}(a:Du n own am σ σ'){H:Hp} : Same (hd (Ow own) H) (hd (Ow am) H):=gW (λb hP=>by obtain⟨j,z⟩:=hP;exact .inl ⟨j,(a.1 j).elim (λe=>e ▸ z) λe=>by rw[e.2]at z;cases z⟩) λ_ _ z=>z
abbrev zn:Type:=T->List OT->(List OT->Prop)->Prop
def tQG(K:Frag)(n:Nat)(g:zn):TG:=λv σ H Q=>∃own o t R,SR K own H σ o/\Rep K (hd (Ow own) H) v t/\g t o R/\∀am σ' o',R o'->Du n own am σ σ'->SR K am H σ' o'->Q σ' H
def QG(X:Cx)(n:Nat)(tg:Expr)(g:zn):Prop:=PG X tg (tQG X.K n g)
abbrev ze:Type:=List T->List OT->(List OT->Prop)->Prop
def QGs(X:Cx)(n:Nat)(tg:List Expr)(g:ze):Prop:=PGs X tg λv σ H Q=>∃own o t R,SR X.K own H σ o/\bV X.K (hd (Ow own) H) v t/\g t o R/\∀am σ' o',R o'->Du n own am σ σ'->SR X.K am H σ' o'->Q σ' H
def PGs.imp{tg:List Expr}{t t':TGs}(h:PGs X tg t)(i:∀v σ H Q,t' v σ H Q->t v σ H Q):PGs X tg t':=λaa s σ H v u Q I r q=>h aa s σ H v u Q I r (i _ _ _ _ q)
def hName(i:Nat):zn:=λt o q=>q (o.set i (.fz t))
def ajS:ze:=λts o q=>match ts with|[]=>q o|_=>False
def aex(g:zn)(gs:ze):ze:=λts o q=>match ts with|t::ts=>g t o λo'=>gs ts o' q|_=>False
def amA(n:Nat)(gs:ze):zn:=λt o q=>match t with|.tup ts=>ts.length=n/\gs ts o q|_=>False
def SR.setF{K:Frag}{own:zC}{H:Hp}{σ:L2.St}{o:List OT}(h:SR K own H σ o){v:V}{t:T}(r:Rep K (hd (Ow own) H) v t){n i:Nat}(hi:i<n):∃am,SR K am H (σ.set i (some v)) (o.set i (.fz t))/\Du n own am σ (σ.set i (some v)):=by
 have le:Same (hd (Ow own) H) (hd (Ow (own1 own i [])) H):=gW (λb z=>.inl (z.of1.elim id λy=>(nomatch y))) λ_ _ z=>z;have go:Du n own (own1 own i []) σ (σ.set i (some v)):=⟨λj=>by
  by_cases z:j=i
  .exact .inr ⟨z ▸ hi,by rw[z,iR]⟩
  .exact .inl (dX z),WH,λj hj=>VY (by lia)⟩
 by_cases hl:i<o.length
 .refine⟨own1 own i [],⟨by rw[WH,WH,h.len],λj y e=>?_,λj hj a ha=>?_,λj k a e1 e2=>?_⟩,go⟩
  .by_cases z:j=i
   .subst z;rw[VT hl]at e;cases e;rw[iR,VT (h.len ▸ hl)];exact⟨rfl,v,rfl,r.same le⟩
   .rw[VY (Ne.symm z)]at e;rw[dX z,VY (Ne.symm z)];exact(h.sl j y e).same le λ_ _ z=>z
  .rw[WH]at hj;rw[dX (by lia)]at ha;exact h.out j hj a ha
  .by_cases z:j=i
   .rw[z,iR]at e1;cases e1
   by_cases y:k=i
   .rw[y,iR]at e2;cases e2
   .rw[dX z]at e1;rw[dX y]at e2;exact h.dis j k a e1 e2
 .refine⟨own,?_,⟨λ_=>.inl rfl,go.2⟩⟩;rw[Zyu (Nat.not_lt.mp hl),Zyu (h.len ▸ Nat.not_lt.mp hl)];exact h
def bW{n:Nat}(i:Nat){x:Str}(hN:X.N.Nodup:=by assumption)(hx:Loc X.env.scope x:=by first|exact .inl rfl|exact .inr rfl)(hi:X.N[i]?=some x:=by rfl)(hn:i<n:=by decide)(hf:zd X x:=by first|exact .inl rfl|exact .inr rfl|assumption):QG X n (.Name x pos) (hName i):=(jC hN hi hx hf).imp λv σ H Q hP=>by
 obtain⟨own,o,t,R,h,r,hg,k⟩:=hP;obtain⟨am,h',S⟩:=h.setF r hn;exact k am _ _ hg S h'
def dO{n:Nat} : QGs X n [] ajS:=VL.imp λv σ H Q hP=>by
 obtain⟨own,o,t,R,h,r,hg,k⟩:=hP;cases r with
 |nil=>exact⟨rfl,k own σ o hg .refl h⟩
 |cons _ _=>exact hg.elim
def bT{n:Nat}{e:Expr}{es:List Expr}{g:zn}{gs:ze}(h1:QG X n e g)(h2:QGs X n es gs)(hs:(assignEach (e::es) X.env).map (·.2)=assign e X.env::(assignEach es X.env).map (·.2):=by rfl):QGs X n (e::es) (aex g gs):=(Cw h1 h2 hs).imp λv σ H Q hP=>by
 obtain⟨own,o,t,R,h,r,hg,k⟩:=hP;cases r with
 |nil=>exact hg.elim
 |cons a b=>exact⟨_,_,rfl,own,o,_,_,h,a,hg,λam σ' o' q S h'=>⟨am,o',_,R,h',b.same S.same,q,λb6 σ2 o2 q S2 h2=>k b6 σ2 o2 q (S.trans S2) h2⟩⟩
def fW{m:Nat}{es:List Expr}{k:Nat}{gs:ze}{n:Nat}(h:QGs X m es gs)(hc:X.calm=true:=by rfl)(hn:(assignEach es X.env).length=n:=by rfl)(bj:zS X es:=by rfl):QG X m (.Tuple es k pos) (amA n gs):=(aaC hc h hn bj).imp λv σ H Q hP=>by
 obtain⟨own,o,t,R,h,r,hg,k⟩:=hP;cases t<;>try exact hg.elim
 obtain⟨a,xs,rfl,e,r⟩:=r.tupI;exact⟨a,xs,rfl,cC.tup e,r.len.trans hg.1,own,o,_,R,h,r,hg.2,k⟩
def amU(a:RE)(g:zn):RS:=λE o=>a o λx=>g (frz x) o E.nx
def zF{n:Nat}{tg:Expr}{g:zn}(he:QE X e re)(hg:QG X n tg g)(hs:swapsWithSole [tg] e pos.line X.env=pure false:=by rfl)(hw:swappedStores [tg] e X.env=pure none:=by rfl)(h1:(assignEach [tg] X.env).map (·.2)=[assign tg X.env]:=by rfl):QS X (.Assign [tg] e pos) (amU re g) :=
 (Tj he hg hs hw h1).imp λD σ H hP=>by obtain⟨own,o,E,h,hr,L⟩:=hP;exact tQ.mk h hr λH1 v y q E1 r1=>⟨own,o,_,_,h.same E1,r1,q,λam σ' o' q S h'=>L.nx am H1 σ' o' q ((bN E1).trans S.same) h'⟩
end
section
variable{P:Program}{w:World}{K:Frag}{mg:Str->Ψ}{base:Heap}
def start'(n:Nat)(ts:List T):List OT:=ts.map OT.fz++List.replicate (n-ts.length) .und
def SR.start{H:Hp}{vs:Ε}{ts:List T}(r:bV K H vs ts)(N:Θ):SR K (λ_=>[]) H (start N vs) (start' N.length ts):=by
 have e0:Ow (λ_=>[])=λ_=>False:=funext λb=>propext ⟨λhP=>by obtain⟨_,z⟩:=hP;exact(nomatch z),False.elim⟩;refine⟨by unfold start' L2.start;simp[r.len],λi x e=>?_,λ_ _ _ z=>(nomatch z),λi j a z=>(nomatch z)⟩;rw[e0,Gd];unfold start' at e;unfold L2.start;by_cases hi:i<ts.length
 .rw[aF (by simpa using hi),aq,aj hi]at e;cases e;obtain⟨v,e1,r1⟩:=r.at_ (aj hi);rw[aF (by rw[ak,r.len];exact hi),aq,e1];exact⟨rfl,v,rfl,r1⟩
 .rw[aD (by simpa using hi),ak,XG]at e;by_cases hj:i-ts.length<N.length-ts.length
  .rw[ZY hj]at e;cases e;rfl
  .rw[ZZ hj]at e;cases e
def Fun.okT{x ah:Str}{st:Stmt}{f:Addr}{fd:FuncData}{N ps:Θ}{k:Nat}{S:ST}(F:Fun K x ah st f fd)(sc:bK N ps (bF st))
 (be:∀(ai:Value)(A:Around)(outer:List Env)(s:Shared)(H:Hp)(E:XK),dh k (A.deeper (envOfC ah (bF st) s.heap.objs.size f ai))->N.Nodup ->
   ∃r,QSs (zX CX0 P w K mg base N ah (bF st) f ai A outer s H E).nox (eU st) r/\∀ts R,S ts R->r { nx:=λ_=>R (.fz .non),rt:=R } (start' N.length ts))(len:∀ts R,S ts R->ts.length=ps.length:=by intro _ _ h;repeat (first|exact(ZH List.length h.1).trans rfl|obtain⟨_,h⟩:=h)):dI P w K mg base CX0 (k+1) f fd ps (spT K S):=by
 refine F.ok sc (λvs H Q E h=>?_) λai A outer s H vs Q E hr h=>?_
 .obtain⟨ts,R,r,hS,_⟩:=h;exact r.len.trans (len ts R hS)
 .obtain⟨ts,R,r,hS,q⟩:=h;obtain⟨rd,h1,h2⟩:=be ai A outer s H E hr sc.nd;have e0:hd (Ow λ_=>[]) H=H:=by rw[show Ow (λ_=>[])=λ_=>False from funext λb=>propext ⟨λhP=>by obtain⟨_,z⟩:=hP;exact(nomatch z),False.elim⟩,Gd]
  have aS:∀(S:Addr->Prop)H' v x B,R x->Same H (hd S H')->Slo K (hd S H') H' (some v) B x->(∀a∈B,S a)->Q v H':=λS' H' v x B rx E s hB =>
   q H' v x rx (E.trans cC) ⟨B,λa ha=>E.free (n8 (hB a ha)),s.same (gW (λb z=>.inl (z.elim False.elim (hB b))) λ_ _ z=>z) λ_ _ z=>z⟩
  refine⟨_,h1,λ_=>[],_,_,SR.start r N,h2 ts R hS,⟨λown H' σ o rx E h=>?_,λS' H' v x B rx E s hB=>aS S' H' v x B rx (e0 ▸ E) s hB,λ_ _ _ _ z=>z.elim,λ_ _ _ _ z=>z.elim,λ_ _ _ _ _ _ z=>z.elim⟩⟩;exact aS (Ow own) H' .non _ [] rx (e0 ▸ E) ⟨rfl,_,rfl,.non⟩ λ_ z=>(nomatch z)
end
abbrev RI:=List OT->(List T->Prop)->Prop
def Wlk(K:Frag)(J:It)(F:Hp)(xs:List T):Prop:=∀(S:Addr->Prop)(H:Hp)(i:Nat),(∀b,S b->H b≠none)->Same F (hd S H) ->
 (i=xs.length->J.stop i H)/\∀t,xs[i]?=some t->J.go i H/\∀x H',J.yld i H x H'->Same H H'/\Rep K (hd S H') x t
def tQI(K:Frag)(r:RI):TI:=λσ H Q=>∃own o R,SR K own H σ o/\r o R/\∀H' J xs,R xs->Same H H'->Wlk K J (hd (Ow own) H') xs->Q J H'
def QI(X:Cx)(tg it:Expr)(r:RI):Prop:=PI X tg it (tQI X.K r)
def PI.imp{X:Cx}{tg it:Expr}{t t':TI}(h:PI X tg it t)(i:∀σ H Q,t' σ H Q->t σ H Q):PI X tg it t':=λaa s σ H Q I q=>h aa s σ H Q I (i σ H Q q)
def am1(a:RE):RI:=λo q=>a o λx=>match frz x with|.lst ts=>q ts|_=>False
def amP(a:RE):RI:=λo q=>a o λx=>match frz x with|.tup ts=>q ts|_=>False
def YL{S:Addr->Prop}{H:Hp}{t:Addr}{u:HO}(n:H t=none)(hs:∀b,S b->H b≠none):hd S (upd H t u) t=some u:=by rw[cL λz=>hs t z n];exact bY
section
variable{X:Cx}{tg:Expr}{e a b:Expr}{re ra rb:RE}{p pos ax:Pos}
def cR(he:QE X e re):QI X tg e (am1 re):=(ad3 he).imp λσ H Q ⟨own,o,R,h,hr,k⟩=>tQ.mk h hr λH1 v x q E1 r1=>by
 revert r1 q
 generalize frz x=t;intro q r1;cases t<;>try exact q.elim
 obtain⟨a,xs,rfl,e,r⟩:=r1.lstI;refine⟨a,rfl,⟨xs,.of (cI e).2⟩,k H1 _ _ q E1 λS H2 i _ SF=>⟨λhi=>⟨xs,.of (cI (SF _ _ e)).2,by rw[r.len];exact WG hi.symm⟩,λt ht=>?_⟩⟩;obtain⟨y,ey,ry⟩:=r.at_ ht;refine⟨⟨xs,y,.of (cI (SF _ _ e)).2,ey⟩,?_⟩;rintro x H3 ⟨rfl,hx⟩;have:=hx xs (.of (cI (SF _ _ e)).2);rw[ey]at this;cases this;exact⟨.refl _,ry.same SF⟩
def ag1(he:QE X e re):QI X tg e (amP re):=(aha he).imp λσ H Q ⟨own,o,R,h,hr,k⟩=>tQ.mk h hr λH1 v x q E1 r1=>by
 revert r1 q
 generalize frz x=t;intro q r1;cases t<;>try exact q.elim
 obtain⟨a,xs,rfl,e,r⟩:=r1.tupI;refine⟨a,rfl,⟨xs,cC.tup e⟩,k H1 _ _ q E1 λS H2 i _ SF=>⟨λhi=>⟨xs,(SF.trans cC).tup e,by rw[r.len];exact WG hi.symm⟩,λt ht=>?_⟩⟩;obtain⟨y,ey,ry⟩:=r.at_ ht;refine⟨⟨xs,y,(SF.trans cC).tup e,ey⟩,?_⟩;rintro x H3 ⟨rfl,hx⟩;have:=hx xs ((SF.trans cC).tup e);rw[ey]at this;cases this;exact⟨.refl _,ry.same SF⟩
def rng(lo:Int)(n:Nat):List T:=(List.range n).map λk:Nat=>.int (lo+k)
def Vx{K:Frag}{lo:Int}{n:Nat}{F:Hp} : Wlk K (Itr lo n) F (rng lo n):=λS H i _ _=>⟨λhi=>by rw[rng,ak,WJ]at hi;exact WG hi.symm,λt ht=>by
 unfold rng at ht;rw[aq]at ht;by_cases hi:i<n
 .rw[VQ hi]at ht;cases ht;refine⟨hi,?_⟩;rintro x H' ⟨rfl,rfl⟩;exact⟨.refl _,.int _⟩
 .rw[aM (by simpa using hi)]at ht;cases ht⟩
def alX(r:RA):RI:=λo q=>r o λts=>match ts with|[.int j]=>(-(2^62)<=j/\j<2^62)/\q (rng 0 j.toNat)|_=>False
def amE(r:RA):RI:=λo q=>r o λts=>match ts with|[.int i,.int j]=>(-(2^62)<=i/\i<2^62/\-(2^62)<=j/\j<2^62)/\q (rng i (j-i).toNat)|_=>False
def dG{r:RA}(hm:X.mg "range"=none)(ha:QA X [a] r)(hg:Gl X "range":=by rfl)(hs:starEach [a] X.env=[(false,eval a X.env)]:=by rfl):QI X tg (.Call (.Name "range" p) [a] [] pos) (alX r):=(XM hg hm ha hs).imp λσ H Q ⟨own,o,R,h,hr,k⟩=>⟨own,o,_,h,hr,λH1 vs ts q _ E1 r1=>by
 match ts,q with
 |[.int j],q =>
  obtain⟨x,rfl,rx⟩:=r1.one;cases rx;exact⟨j,rfl,q.1.1,q.1.2,k H1 _ _ q.2 E1 Vx⟩⟩
def K4{r:RA}(hm:X.mg "range"=none)(ha:QA X [a,b] r)(hg:Gl X "range":=by rfl)(hs:starEach [a,b] X.env=[(false,eval a X.env),(false,eval b X.env)]:=by rfl)(dv:starEach [b] X.env=[(false,eval b X.env)]:=by rfl):QI X tg (.Call (.Name "range" p) [a,b] [] pos) (amE r):=(Xy hg hm ha hs dv).imp λσ H Q ⟨own,o,R,h,hr,k⟩=>⟨own,o,_,h,hr,λH1 vs ts q _ E1 r1=>by
 match ts,q with
 |[.int i,.int j],q =>
  obtain⟨x,y,rfl,rx,ry⟩:=r1.two;cases rx;cases ry;exact⟨i,j,rfl,q.1,k H1 _ _ q.2 E1 Vx⟩⟩
def yW(ts:List T):List T:=ts.zipIdx.map λp=>.tup [.int (p.2:Nat),p.1]
def anj(r:RA):RI:=λo q=>r o λts=>match ts with|[.lst ts]=>q (yW ts)|_=>False
def BX{r:RA}{bE:List Expr}{x1}(hm:X.mg "enumerate"=none)(ha:QA X [a] r)(hg:Gl X "enumerate":=by rfl)(hs:starEach [a] X.env=[(false,eval a X.env)]:=by rfl):QI X (.Tuple bE x1 ax) (.Call (.Name "enumerate" p) [a] [] pos) (anj r):=(ado hg hm ha hs).imp λσ H Q ⟨own,o,R,h,hr,k⟩=>⟨own,o,_,h,hr,λH1 vs ts q _ E1 r1=>by
 match ts,q with
 |[.lst ts],q =>
  obtain⟨x,rfl,rx⟩:=r1.one;obtain⟨a,xs,rfl,e,r⟩:=rx.lstI;refine⟨a,xs,rfl,(cI e).2,k H1 _ _ q E1 λS H2 i hs SF=>⟨λhi=>⟨xs,(cI (SF _ _ e)).2,by rw[r.len,hi];simp[yW]⟩,λt ht=>?_⟩⟩;unfold yW at ht;rw[aq]at ht;by_cases hi:i<ts.length
  .rw[aj (by simpa using hi),List.getElem_zipIdx]at ht;cases ht;obtain⟨y,ey,ry⟩:=r.at_ (aj hi);refine⟨⟨xs,(cI (SF _ _ e)).2,by rw[r.len];exact hi⟩,?_⟩;rintro x H3 ⟨eS,x',t,e',ex,n,rfl,rfl⟩;rw[(cI (SF _ _ e)).2]at e';cases e';rw[ey]at ex;cases ex;refine⟨Same.upd n,.tup (.of (YL n hs)) (.cons ?_ (.cons (ry.same (SF.trans (bN (Same.upd n)))) .nil))⟩;rw[show((0+i:Nat):Int)=(i:Int)by lia];exact .int _
  .rw[aM (by simpa using hi)]at ht;cases ht⟩
def Jx(ts us:List T):List T:=(ts.zip us).map λp=>.tup [p.1,p.2]
def amJ(r:RA):RI:=λo q=>r o λts=>match ts with|[.lst ts,.lst us]=>q (Jx ts us)|_=>False
def Vl{r:RA}{bE:List Expr}{x1}(hm:X.mg "zip"=none)(ha:QA X [a,b] r)(hg:Gl X "zip":=by rfl)(hs:starEach [a,b] X.env=[(false,eval a X.env),(false,eval b X.env)]:=by rfl)(dv:starEach [b] X.env=[(false,eval b X.env)]:=by rfl):QI X (.Tuple bE x1 ax) (.Call (.Name "zip" p) [a,b] [] pos) (amJ r):=(agT hg hm ha hs dv).imp λσ H Q ⟨own,o,R,h,hr,k⟩=>⟨own,o,_,h,hr,λH1 vs ts q _ E1 r1=>by
 match ts,q with
 |[.lst ts,.lst us],q =>
  obtain⟨x,y,rfl,rx,ry⟩:=r1.two;obtain⟨a,xs,rfl,e,r⟩:=rx.lstI;obtain⟨b,ys,rfl,e2,r2⟩:=ry.lstI;refine⟨a,b,xs,ys,rfl,(cI e).2,(cI e2).2,k H1 _ _ q E1 λS H2 i hs SF=>⟨λhi=>⟨xs,ys,(cI (SF _ _ e)).2,(cI (SF _ _ e2)).2,?_⟩,λt ht=>?_⟩⟩
  .rw[r.len,r2.len];rw[Jx,ak,VV]at hi;lia
  .unfold Jx at ht;rw[aq]at ht;by_cases hi:i<ts.length/\i<us.length
   .rw[aj (by rw[VV];omega),List.getElem_zip]at ht;cases ht;obtain⟨y,ey,ry⟩:=r.at_ (aj hi.1);obtain⟨z,ez,rz⟩:=r2.at_ (aj hi.2);refine⟨⟨xs,ys,(cI (SF _ _ e)).2,(cI (SF _ _ e2)).2,by rw[r.len];exact hi.1,by rw[r2.len];exact hi.2⟩,?_⟩;rintro x H3 ⟨eS,ja,x',y',t,e',lP,ex,ey',n,rfl,rfl⟩;rw[(cI (SF _ _ e)).2]at e';cases e';rw[(cI (SF _ _ e2)).2]at lP;cases lP;rw[ey]at ex;cases ex;rw[ez]at ey';cases ey';have S3:=SF.trans (bN (S:=S) (Same.upd (o:=.tup [y,z]) n));exact⟨Same.upd n,.tup (.of (YL n hs)) (.cons (ry.same S3) (.cons (rz.same S3) .nil))⟩
   .rw[aM (by rw[VV];omega)]at ht;cases ht⟩
def zc(g:zn)(b:RS)(E:DT):List T->List OT->Prop
 |[],o=>E.nx o
 |t::ts,o=>∃N:List OT->Prop,(∀o,N o->zc g b E ts o)/\g t o λo'=>b { E with nx:=N,ct:=N,bk:=E.nx } o'
def amV(it:RI)(g:zn)(b:RS):RS:=λE o=>it o λxs=>zc g b E xs o
def eV{n:Nat}{iter:Expr}{bP:List Stmt}{ri:RI}{g:zn}{rb:RS}(hi:QI X tg iter ri)(hg:QG X n tg g)(hb:QSs X bP rb)(hc:X.calm=true:=by rfl)(hp:PassesOwn (model X.prog X.w) X.A X.env X.xe:=by first|exact PassesOwn.never|exact PassesOwn.leaving)
 (hs:zh X iter:=by intro _;rfl):QS X (.For tg iter bP [] pos) (amV ri g rb):=(abV hp hc hi hg hb hs).imp λD σ H ⟨own,o,E,h,hr,L⟩=>⟨own,o,_,h,hr,λH1 J xs q E1 wk=>by
 refine⟨λi m σ' H'=>∃am o',SR X.K am H' σ' o'/\Same (hd (Ow own) H1) (hd (Ow am) H')/\zc g rb E (xs.drop i) o'/\i<=xs.length/\m=xs.length-i,⟨_,own,o,h.same E1,.refl _,q,aZ _,rfl⟩,?_⟩;rintro i m σ' H' ⟨am,o',h',S',hl,il,rfl⟩;obtain⟨w1,w2⟩:=wk (Ow am) H' i (λb z=>(h'.sole z).ne) S';have S0:=(bN E1).trans S';by_cases hi:i<xs.length
 .right;obtain⟨go,yl⟩:=w2 _ (aj hi);rw[Q1 hi]at hl;obtain⟨N,hN,hl⟩:=hl;refine⟨go,λσ2 H2=>∃b6 o2,SR X.K b6 H2 σ2 o2/\Same (hd (Ow own) H1) (hd (Ow b6) H2)/\zc g rb E (xs.drop (i+1)) o2,λσ2 H2 ⟨b6,o2,a,b,c⟩=>⟨xs.length-(i+1),by omega,b6,o2,a,b,c,hi,rfl⟩,λx H2 y=>?_⟩;obtain⟨E2,rx⟩:=yl x H2 y;refine⟨am,o',_,_,h'.same E2,rx,hl,λfm σ3 o3 q3 iO h3=>⟨fm,o3,_,h3,q3,?_⟩⟩;have S3:=S'.trans ((bN (S:=Ow am) E2).trans iO.same);have L3:=L.step ((bN E1).trans S3);exact⟨λcz H4 σ4 o4 q S h=>⟨cz,o4,h,S3.trans S,hN _ q⟩,L3.rt,λcz H4 σ4 o4 q S h=>L3.nx cz H4 σ4 o4 q S h,λcz H4 σ4 o4 q S h=>⟨cz,o4,h,S3.trans S,hN _ q⟩,L3.xc⟩
 .left;refine⟨w1 (by lia),?_⟩;rw[Th (Nat.not_lt.mp hi)]at hl;exact L.nx am H' σ' o' hl S0 h'⟩
def af8(c:RT)(b:RS):RS:=λE o=>∃W:Nat->List OT->Prop,(∃m,W m o)/\∀m o,W m o->c o λk=>sw k (∃N:List OT->Prop,(∀o',N o'->∃m',m'<m/\W m' o')/\b { E with nx:=N,ct:=N,bk:=E.nx } o) (E.nx o)
def Rb{c:Expr}{bP:List Stmt}{rc:RT}{rb:RS}(hc:QT X c rc)(hb:QSs X bP rb)(hp:PassesOwn (model X.prog X.w) X.A X.env X.xe:=by first|exact PassesOwn.never|exact PassesOwn.leaving):QS X (.While c bP [] pos) (af8 rc rb):=(abW hp hc hb).imp λD σ H hP=>by
 obtain⟨own,o,E,h,hr,L⟩:=hP;obtain⟨W,⟨m0,w0⟩,st⟩:=hr;refine⟨λm σ' H'=>∃am o',SR X.K am H' σ' o'/\Same (hd (Ow own) H) (hd (Ow am) H')/\W m o',⟨m0,own,o,h,.refl _,w0⟩,?_⟩;rintro m σ' H' ⟨am,o',h',S',wm⟩;refine tQT.mk h' (st m o' wm) λH1 k q E1=>H_ q (λhP=>?_) λq=>L.nx am H1 σ' o' q (S'.trans (bN E1)) (h'.same E1);obtain⟨N,hN,q⟩:=hP;have S1:=S'.trans (bN E1);have L1:=L.step S1;refine⟨λσ2 H2=>∃b6 o2,SR X.K b6 H2 σ2 o2/\Same (hd (Ow own) H) (hd (Ow b6) H2)/\N o2,λσ2 H2 hP=>?_,am,o',_,h'.same E1,q,⟨λcz H4 σ4 o4 q S h=>⟨cz,o4,h,S1.trans S,q⟩,L1.rt,λcz H4 σ4 o4 q S h=>L1.nx cz H4 σ4 o4 q S h,λcz H4 σ4 o4 q S h=>⟨cz,o4,h,S1.trans S,q⟩,L1.xc⟩⟩;obtain⟨b6,o2,a,b,c⟩:=hP;obtain⟨m',lt,w⟩:=hN o2 c;exact⟨m',lt,b6,o2,a,b,w⟩
end
def jK(g:zn)(c:RT)(e:RE)(o:List OT):List T->(List T->Prop)->Prop
 |[],q=>q []
 |t::ts,q=>∃(N:T->Prop)(M:Prop),(∀y,N y->jK g c e o ts λus=>q (y::us))/\(M->jK g c e o ts q)/\g t o λo'=>c o' λb=>sw b (e o' λy=>N (frz y)) M
def anr:RT:=λ_ q=>q true
def Yz(it:RI)(n:Nat)(g:zn)(c:RT)(e:RE):RE:=λo q=>it o λxs=>xs.length<=sizeLine/\jK g c e (List.replicate n .und++o) xs λus=>q (.l1 us)
def ownS(n L:Nat)(own:zC)(D:Addr):zC:=λi=>if i<n then[]else if i<n+L then own (i-n)else if i=n+L then[D]else own (i-n-1)
def Ow.ownS{n L:Nat}{own:zC}{D b:Addr} : Ow (ownS n L own D) b↔Ow own b\/b=D:=by
 constructor
 .rintro⟨i,z⟩;unfold L2.ownS at z;by_cases h1:i<n
  .rw[ZY h1]at z;cases z
  rw[ZZ h1]at z;by_cases h2:i<n+L
  .rw[ZY h2]at z;exact .inl ⟨_,z⟩
  rw[ZZ h2]at z;by_cases h3:i=n+L
  .rw[ZY h3]at z;exact .inr (YR.mp z)
  .rw[ZZ h3]at z;exact .inl ⟨_,z⟩
 .rintro(⟨i,z⟩|rfl)
  .by_cases h:i<L
   .exact⟨n+i,by unfold L2.ownS;rw[ZZ (UR (X1 _ _)),ZY (Nat.add_lt_add_left h _),show n+i-n=i by exact Tk _ _];exact z⟩
   .exact⟨n+i+1,by unfold L2.ownS;rw[ZZ (by lia),ZZ (by lia),ZZ (by lia),show n+i+1-n-1=i by lia];exact z⟩
  .exact⟨n+L,by unfold L2.ownS;rw[ZZ (UR (X1 _ _)),ZZ (X2 _),ZY rfl];simp⟩
def SR.block{K:Frag}{own:zC}{H:Hp}{σ:L2.St}{o:List OT}(h:SR K own H σ o){D:Addr}{ys:Ε}{H':Hp}(E:Same H H')(nD:H D=none)(eD:H' D=some (.lst ys))(pre:L2.St):SR K (ownS pre.length o.length own D) H' (pre++σ) (List.replicate pre.length .und++o):=by
 have le:Same (hd (Ow own) H) (hd (Ow (ownS pre.length o.length own D)) H'):=gW (λb z=>(Ow.ownS.mp z).imp id λ(e:b=D)=>e ▸ nD) E;have f7:∀j,D∉own j:=λj z=>(h.sole ⟨j,z⟩).ne nD;refine⟨by simp[h.len],λi x e=>?_,λi hi a ha=>?_,λi j a e1 e2=>?_⟩
 .by_cases h1:i<pre.length
  .rw[aF (by simpa using h1),XG,ZY h1]at e;cases e;show ownS _ _ _ _ i=[];unfold ownS;rw[ZY h1]
  .rw[aD (by simpa using h1),aN]at e;have h2:i-pre.length<o.length:=(ao.mp e).1;rw[aD (Nat.not_lt.mp h1)];have:ownS pre.length o.length own D i=own (i-pre.length):=by unfold ownS;rw[ZZ h1,ZY (by omega)]
   rw[this];exact(h.sl _ x e).same le E
 .rw[aA,aN]at hi;unfold ownS at ha;rw[ZZ (by lia),ZZ (UR hi)]at ha;by_cases h3:i=pre.length+o.length
  .rw[ZY h3]at ha;cases YR.mp ha;exact⟨_,eD⟩
  .rw[ZZ h3]at ha;obtain⟨xs,e⟩:=h.out _ (by lia) a ha;exact⟨xs,E _ _ e⟩
 .unfold ownS at e1 e2;by_cases a1:i<pre.length
  .rw[ZY a1]at e1;cases e1
  by_cases b1:j<pre.length
  .rw[ZY b1]at e2;cases e2
  rw[ZZ a1]at e1;rw[ZZ b1]at e2;by_cases a2:i<pre.length+o.length<;>by_cases b2:j<pre.length+o.length
  .rw[ZY a2]at e1;rw[ZY b2]at e2;have:=h.dis _ _ a e1 e2;omega
  .rw[ZY a2]at e1;rw[ZZ b2]at e2;by_cases b3:j=pre.length+o.length
   .rw[ZY b3]at e2;cases YR.mp e2;exact absurd e1 (f7 _)
   .rw[ZZ b3]at e2;have:=h.dis _ _ a e1 e2;omega
  .rw[ZZ a2]at e1;rw[ZY b2]at e2;by_cases a3:i=pre.length+o.length
   .rw[ZY a3]at e1;cases YR.mp e1;exact absurd e2 (f7 _)
   .rw[ZZ a3]at e1;have:=h.dis _ _ a e1 e2;lia
  .rw[ZZ a2]at e1;rw[ZZ b2]at e2;by_cases a3:i=pre.length+o.length<;>by_cases b3:j=pre.length+o.length
   .exact Eq.trans a3 (Eq.symm b3)
   .rw[ZY a3]at e1;rw[ZZ b3]at e2;cases YR.mp e1;exact absurd e2 (f7 _)
   .rw[ZZ a3]at e1;rw[ZY b3]at e2;cases YR.mp e2;exact absurd e1 (f7 _)
   .rw[ZZ a3]at e1;rw[ZZ b3]at e2;have:=h.dis _ _ a e1 e2;lia
def Qo{n:Nat}{own am:zC}{pre σ σ':L2.St}(hp:pre.length=n)(g:Du n own am (pre++σ) σ'):∃b8:L2.St,b8.length=n/\σ'=b8++σ:=by
 obtain⟨_,l,k⟩:=g;refine⟨σ'.take n,by rw[aY,l,aA];lia,?_⟩;refine List.ext_getElem? λi=>?_;by_cases hi:i<n
 .rw[aF (by rw[aY,l,aA];lia),List.getElem?_take_of_lt hi]
 .rw[aD (by rw[aY,l,aA];lia),k i (VS hi),aD (by lia),aY,l,aA]
  congr 1
  lia
def Ri{K:Frag}{σ:L2.St}{Q:VK}{n:Nat}{g:zn}{rc:RT}{re:RE}{own:zC}{o:List OT}{H1:Hp}{J:It}{xs:List T}{R:OT->Prop}{D:Addr}(h1:SR K own H1 σ o)(wk:Wlk K J (hd (Ow own) H1) xs)(lx:xs.length<=sizeLine)(q:jK g rc re (List.replicate n .und++o) xs λus=>R (.l1 us))(nD:H1 D=none)(k:∀H' v x,R x->Same H1 H'->NR K (Ow own) H1 H' v x->Q v H') :
  ∃W:Nat->Nat->Ε->Hp->Prop,(∃m,W 0 m [] (upd H1 D (.lst [])))/\∀i m ys Hc,W i m ys Hc ->
   (J.stop i Hc/\Q (.ref D) Hc)\/(J.go i Hc/\∀x H',J.yld i Hc x H'->∀pre:L2.St,pre.length=n->tMG (tQG K n g) x (pre++σ) H' λσ2 H2=>∃b8:L2.St,b8.length=n/\σ2=b8++σ/\tMT (tQT K rc) σ2 H2 λb H3 =>
    match b with
    |true=>tM (tQ K re) σ2 H3 λy H4=>ys.length<sizeLine/\H4 D=some (.lst ys)/\∃m',m'<m/\W (i+1) m' (ys++[y]) (upd H4 D (.lst (ys++[y])))
    |false=>∃m',m'<m/\W (i+1) m' ys H3):=by
 generalize hO:List.replicate n OT.und++o=ob at q;refine⟨λi m ys Hc=>∃ts,Hc D=some (.lst ys)/\Same H1 Hc/\bV K (hd (λb=>Ow own b\/b=D) Hc) ys ts/\ys.length<=i/\i<=xs.length/\m=xs.length-i/\jK g rc re ob (xs.drop i) λus=>R (.l1 (ts++us)),⟨_,[],bY,Same.upd nD,.nil,aG _,aZ _,rfl,q⟩,?_⟩;rintro i m ys Hc ⟨ts,eD,Ec,rs,il,ix,rfl,hl⟩;have hn:∀b,Ow own b\/b=D->Hc b≠none:=λb z=>z.elim (λz=>((h1.same Ec).sole z).ne) λe z=>by rw[e,eD]at z;cases z
 have SD:Same (hd (Ow own) H1) (hd (λb=>Ow own b\/b=D) Hc):=gW (λb z=>z.imp id λ(e:b=D)=>e ▸ nD) Ec;obtain⟨w1,w2⟩:=wk (λb=>Ow own b\/b=D) Hc i hn SD;by_cases hi:i<xs.length
 .right;obtain⟨go,yl⟩:=w2 _ (aj hi);rw[Q1 hi]at hl;obtain⟨N,M,hN,hM,hl⟩:=hl;refine⟨go,λx H2 y pre hp=>?_⟩;obtain⟨E2,rx⟩:=yl x H2 y;have eO:(λb=>Ow own b\/b=D)=Ow (ownS n o.length own D):=funext λb=>propext Ow.ownS.symm;have hb:SR K (ownS n o.length own D) H2 (pre++σ) ob:=by
   have:=h1.block (Ec.trans E2) nD (E2 _ _ eD) pre;rw[hp,hO]at this;exact this
  rw[eO]at rx rs;refine⟨_,⟨ownS n o.length own D,ob,_,_,hb,rx,hl,λfm σ3 o3 q3 iO h3=>?_⟩,λ_ _ z=>z⟩;obtain⟨b8,eJ,rfl⟩:=Qo hp iO;have e3:fm=ownS n o.length own D:=funext λj=>by
   rcases iO.1 j with e|⟨e1,e2⟩
   .exact e
   .rw[e2];unfold ownS;rw[ZY e1]
  subst e3;refine⟨b8,eJ,rfl,_,tQT.mk h3 q3 λH3 b q4 E3=>?_,λ_ _ z=>z⟩;have q4:sw b (re o3 λy=>N (frz y)) M:=q4;cases b with
  |false=>exact⟨xs.length-(i+1),by lia,ts,E3 _ _ (E2 _ _ eD),Ec.trans (E2.trans E3),by rw[eO];exact rs.same (bN (E2.trans E3)),by exact aL il (X1 _ _),by exact hi,rfl,hM q4⟩
  |true =>
   refine⟨_,tQ.mk (h3.same E3) q4 λH4 v y q5 E4 r4=>⟨by lia,E4 _ _ (E3 _ _ (E2 _ _ eD)),xs.length-(i+1),by lia,ts++[frz y],bY,λb u e=>?_,?_,by rw[aA,List.length_singleton];exact Nat.succ_le_succ il,by exact hi,rfl,?_⟩,λ_ _ z=>z⟩
   .rw[bO λz=>by rw[z,nD]at e;cases e];exact E4 _ _ (E3 _ _ (E2 _ _ (Ec _ _ e)))
   .rw[vN (S:=λb=>Ow own b\/b=D) (.inr rfl),eO];exact(rs.same (bN (E2.trans (E3.trans E4)))).app (.cons r4 .nil)
   .have:=hN _ q5;simp only[Wp,List.singleton_append];exact this
 .left;have:i=xs.length:=by lia
  refine⟨w1 this,?_⟩;rw[Th (VS hi)]at hl;have hl:R (.l1 (ts++[])):=hl;rw[List.append_nil]at hl;exact k Hc _ _ hl Ec (NR.l1 nD eD rs)
def G3{K:Frag}{σ:L2.St}{H:Hp}{Q:VK}{ri:RI}{n:Nat}{g:zn}{rc:RT}{re:RE}(h:tQ K (Yz ri n g rc re) σ H Q):qg (tQI K ri) n (tMG (tQG K n g)) (tMT (tQT K rc)) (tM (tQ K re)) σ H Q:=by
 obtain⟨own,o,R,h,hr,k⟩:=h;exact⟨own,o,_,h,hr,λH1 J xs q E1 wk D nD=>Ri (h.same E1) wk q.1 q.2 nD λH' v x rx E n=>k H' v x rx (E1.trans E) (n.back E1)⟩
section
variable{X:Cx}{tg iter bg:Expr}{aI:List Expr}{ri:RI}{g:zn}{rc:RT}{re:RE}{scope:Scope}{pos:Pos}
def QTs(X:Cx)(aI:List Expr)(r:RT):Prop:=PTs X aI (tQT X.K r)
def cJ:QTs X [] anr:=λaa s σ H Q I hP=>by obtain⟨own,o,R,h,hr,k⟩:=hP;exact aci aa s σ H Q I (k H true hr (.refl _))
def VH{c:Expr}{rc:RT}(h:QT X c rc):QTs X [c] rc:=ad5 h
def fM(sc:Scope)(N N' xs:Θ)(hi:QI X tg iter ri)(hg:∀{C s₀ H₀ ex pn},QG (X.compG N' scope xs C s₀ H₀ ex pn) xs.length tg g)(ht:∀{C s₀ H₀ ex pn},QTs (X.compG N' scope xs C s₀ H₀ ex pn) aI rc)(he:∀{C s₀ H₀ ex pn},QE (X.compG N' scope xs C s₀ H₀ ex pn) bg re)
 (cS:X.env.scope=sc:=by rfl)(c8:X.N=N:=by rfl)(hc:X.calm=true:=by rfl)(hk:scope.kind=.function:=by rfl)(h:CK sc scope N N' xs:=by decide +kernel)(hs:zh X iter:=by intro _;rfl):QE X (.ListComp bg [⟨tg,iter,aI,0⟩] scope pos) (Yz ri xs.length g rc re) :=
 (Z1 (gt:=tQG X.K xs.length g) (tc:=tQT X.K rc) (te:=tQ X.K re) sc N N' xs hi hg ht he cS c8 hc hk h hs).imp λ_ _ _=>G3
def Wm(sc:Scope)(N N':Θ)(x0:Str)(hi:QI X tg iter ri)(hg:∀{C s₀ H₀ ex pn},QG (X.compGC N' scope x0 C s₀ H₀ ex pn) 1 tg g)(ht:∀{C s₀ H₀ ex pn},QTs (X.compGC N' scope x0 C s₀ H₀ ex pn) aI rc)(he:∀{C s₀ H₀ ex pn},QE (X.compGC N' scope x0 C s₀ H₀ ex pn) bg re)
 (cS:X.env.scope=sc:=by rfl)(c8:X.N=N:=by rfl)(hc:X.calm=true:=by rfl)(hk:scope.kind=.function:=by rfl)(gi:∀n acc,cellsFrom n scope.names acc=(x0,n)::acc:=by intro _ _;rfl)(gd:∀h,pushCells h scope.names=h.push { cls:=.type "cell",data:=.cell none }:=by intro _;rfl)(h:(∀y∈scope.names,y.2=.cell->y.1=x0)/\CK0 sc scope N N' [x0]:=by decide +kernel)(hs:zh X iter:=by intro _;rfl):QE X (.ListComp bg [⟨tg,iter,aI,0⟩] scope pos) (Yz ri 1 g rc re) :=
 (Y5 (gt:=tQG X.K 1 g) (tc:=tQT X.K rc) (te:=tQ X.K re) sc N N' x0 hi hg ht he cS c8 hc hk gi gd h hs).imp λ_ _ _=>G3
def Oo{N0:Θ}{x0:Str}{sO:Scope}{C0:Addr}{s0:Shared}{H0:Hp}{eM:Φ}{dS:Γ}(sc:Scope)(N N' xs:Θ)(hi:QI (X.compGC N0 sO x0 C0 s0 H0 eM dS) tg iter ri)(hg:∀{C s₀ H₀ ex pn},QG ((X.compGC N0 sO x0 C0 s0 H0 eM dS).compG N' scope xs C s₀ H₀ ex pn) xs.length tg g)(ht:∀{C s₀ H₀ ex pn},QTs ((X.compGC N0 sO x0 C0 s0 H0 eM dS).compG N' scope xs C s₀ H₀ ex pn) aI rc)(he:∀{C s₀ H₀ ex pn},QE ((X.compGC N0 sO x0 C0 s0 H0 eM dS).compG N' scope xs C s₀ H₀ ex pn) bg re)
 (cS:X.env.scope=sc:=by rfl)(c8 : [x0]++N0=N:=by rfl)(hc:X.calm=true:=by rfl)(hk:scope.kind=.function:=by rfl)(h:CK (rlb sc sO) scope N N' xs:=by decide +kernel)(hs:∀z,foldedSetIterable iter (X.compGC N0 sO x0 C0 s0 H0 eM dS).env z=pure z:=by intro _;rfl):QE (X.compGC N0 sO x0 C0 s0 H0 eM dS) (.ListComp bg [⟨tg,iter,aI,0⟩] scope pos) (Yz ri xs.length g rc re) :=
 PE.imp (ag2 (gt:=tQG X.K xs.length g) (tc:=tQT X.K rc) (te:=tQ X.K re) sc N N' xs hi hg ht he cS c8 hc hk h hs) λ_ _ _=>G3
def afM{i0:Nat}{y0:Str}{py cb:Pos}(sc:Scope)(N N' xs:Θ)(hi:QI X tg iter ri)(hg:∀{C s₀ H₀ ex pn},QG (X.compG N' scope xs C s₀ H₀ ex pn) xs.length tg g)(ht:∀{C s₀ H₀ ex pn},QTs (X.compG N' scope xs C s₀ H₀ ex pn) aI rc)(he:∀{C s₀ H₀ ex pn},QE (X.compG N' scope xs C s₀ H₀ ex pn) bg re)(gf:PG X (.Name y0 py) (yO i0))
 (cS:X.env.scope=sc:=by rfl)(c8:X.N=N:=by rfl)(hc:X.calm=true:=by rfl)(hk:scope.kind=.function:=by rfl)(h:CK sc scope N N' xs:=by decide +kernel)(f':swapsWith (.ListComp bg [⟨tg,iter,aI,0⟩] scope pos) (some (.Name y0 py)) cb.line X.env=pure true:=by rfl)(hs:zh X iter:=by intro _;rfl) :
  QS X (.Assign [.Name y0 py] (.ListComp bg [⟨tg,iter,aI,0⟩] scope pos) cb) (afJ i0 (Yz ri xs.length g rc re)):=(abU (gt:=tQG X.K xs.length g) (tc:=tQT X.K rc) (te:=tQ X.K re) sc N N' xs hi hg ht he gf cS c8 hc hk h f' hs).imp λD σ H ⟨own,o,E,h,hr,L⟩=>G3 ⟨own,o,_,h,hr,λH' v y q S n=>by
 obtain⟨am,h',S'⟩:=h.putA S n i0;exact L.nx am H' _ _ q S' h'⟩
def g_{N' xs:Θ}{C s₀ H₀ ex pn}{n i:Nat}{x:Str}{p:Pos}(hN:(xs++N').Nodup:=by decide +kernel)(hi:(xs++N')[i]?=some x:=by rfl)(hn:i<n:=by decide)(hx:Loc (X.compG N' scope xs C s₀ H₀ ex pn).env.scope x:=by exact Or.inl rfl)(hf:(X.compG N' scope xs C s₀ H₀ ex pn).fn x=true\/(X.compG N' scope xs C s₀ H₀ ex pn).env.scope.names.lookup x=some .local:=by exact Or.inr rfl):QG (X.compG N' scope xs C s₀ H₀ ex pn) n (.Name x p) (hName i):=bW (i:=i) (hN:=hN) (hx:=hx) (hi:=hi) (hn:=hn) (hf:=hf)
def Zz{N':Θ}{x0:Str}{C s₀ H₀ ex pn}{p:Pos}(hN:([x0]++N').Nodup:=by decide +kernel)(hx:Loc (X.compGC N' scope x0 C s₀ H₀ ex pn).env.scope x0:=by exact Or.inr rfl):QG (X.compGC N' scope x0 C s₀ H₀ ex pn) 1 (.Name x0 p) (hName 0)   := bW (i:=0) (hN:=hN) (hx:=hx) (hi:=rfl) (hn:=(by decide)) (hf:=(.inl (beq_self_eq_true _)))
end
def Xc{g:zn}{c:RT}{e:RE}{o:List OT}{t:T}{ts:List T}{q:List T->Prop}(h:g t o λo'=>c o' λb=>sw b (e o' λy=>jK g c e o ts λus=>q (frz y::us)) (jK g c e o ts q)):jK g c e o (t::ts) q:=⟨λy=>jK g c e o ts λus=>q (y::us),_,λ_ h=>h,id,h⟩
section
variable{X:Cx}{a b e:Expr}{ra rb re:RE}{rt:RT}{pos:Pos}
theorem bV.reps{K:Frag}{F:Hp}{xs:Ε}{ts:List T}(h:bV K F xs ts):∀n:Nat,bV K F (List.replicate n xs).flatten (List.replicate n ts).flatten
 |0=>.nil
 |n+1=>by rw[List.replicate_succ,List.replicate_succ,List.flatten_cons,List.flatten_cons];exact h.app (bV.reps h n)
def dU:GO X (binaryOp .Mult) alR:=λaa s σ H x y v u Q I rx ry h=>by
 obtain⟨S,t,w,R,_,hx,hy,hg,k⟩:=h;cases w with
 |int j=>?_
 |_=>cases t<;>exact hg.elim
 cases hy;cases t<;>try exact hg.elim
 .cases hx;exact adA aa s σ H _ _ v u Q I rx ry ⟨_,_,rfl,rfl,hg.1,k H _ _ hg.2 (.refl _) (NR.fz (.int _))⟩
 .cases hx;obtain⟨c,rfl,h1,h2,q⟩:=hg;exact acR aa s σ H _ _ v u Q I rx ry ⟨c,j,rfl,rfl,h1,h2,λz hz=>k H _ _ (q z hz) (.refl _) (NR.fz (.str _))⟩
 .obtain⟨p,xs,rfl,e,r⟩:=hx.lstI;obtain⟨⟨h1,h2,h3⟩,q⟩:=hg;exact afv aa s σ H _ _ v u Q I rx ry ⟨p,j,xs,rfl,rfl,(cI e).2,h1,h2,by rw[r.len];exact h3,λa ha=>k _ _ _ (q _ rfl) (Same.upd ha) (zG (r.reps j.toNat) (Same.upd ha) ha bY)⟩
mutual
def ofD:PyData->T
 |.none=>.non
 |.bool b=>.bl b
 |.int i=>.int i
 |.str s=>.str s
 |.list ds=>.lst (Zr ds)
 |.tuple ds=>.tup (Zr ds)
 |.dict _=>.any
def Zr:List PyData->List T
 |[]=>[]
 |d::ds=>ofD d::Zr ds
end
mutual
theorem Rep.shows{K:Frag}{F:Hp} : ∀{x:V}{t:T},Rep K F x t->∀d,t=ofD d->d.canLay0=true->jj K F x d
 |_,_,.any v,d,e,s=>by cases d<;>cases e;cases s
 |_,_,.non,d,e,_=>by cases d<;>cases e;exact .non
 |_,_,.bl b,d,e,_=>by cases d<;>cases e;exact .bl _
 |_,_,.int i,d,e,_=>by cases d<;>cases e;exact .int _
 |_,_,.str s,d,e,_=>by cases d<;>cases e;exact .str _
 |_,_,.val v,d,e,_=>by cases d<;>cases e
 |_,_,.tup q h,d,e,s=>by
  cases d<;>cases e;exact .tup q (bV.shows h _ rfl s)
 |_,_,.lst q h,d,e,s=>by
  cases d<;>cases e;exact .lst q (bV.shows h _ rfl s)
 |_,_,.scr q h,d,e,_=>by cases d<;>cases e
 |_,_,.dct q l h,d,e,_=>by cases d<;>cases e
 |_,_,.ins q d' l h,d,e,_=>by cases d<;>cases e
theorem bV.shows{K:Frag}{F:Hp} : ∀{xs:Ε}{ts:List T},bV K F xs ts->∀ds,ts=Zr ds->PyData.canLayAll0 ds=true->fH K F xs ds
 |_,_,.nil,ds,e,_=>by cases ds<;>cases e;exact .nil
 |_,_,.cons a b,ds,e,s=>by
  cases ds<;>cases e;obtain⟨s1,s2⟩:=Bool.and_eq_true_iff.mp s;exact .cons (Rep.shows a _ rfl s1) (bV.shows b _ rfl s2)
end
def xr:Bool->Bool->Bool
 |false,b=>b
 |true,b=>!b
def eqS:T->T->Option Bool
 |.int i,.int j=>some (decide (i=j))
 |.str i,.str j=>some (decide (i=j))
 |.bl i,.bl j=>some (decide (i=j))
 |.non,.non=>some true
 |.non,.int _=>some false
 |.int _,.non=>some false
 |.non,.str _=>some false
 |.str _,.non=>some false
 |.int _,.str _=>some false
 |.str _,.int _=>some false
 |.tup [.int a,.int b],.tup [.int c,.int d]=>some (decide (a=c)&&decide (b=d))
 |_,_=>none
def gEq(neg:Bool)(t u:T)(q:OT->Prop):Prop:=match eqS t u with
 |some b=>q (.fz (.bl (xr neg b)))
 |none=>∃d e,t=ofD d/\u=ofD e/\SeqAt.shaped d=true/\SeqAt.shaped e=true/\q (.fz (.bl (xr neg (PyData.eqv d e))))
def aiR(a b c d:Int):PyData.eqv (.tuple [.int a,.int b]) (.tuple [.int c,.int d])=(decide (a=c)&&decide (b=d)):=by
 simp only[PyData.eqv,PyData.eqvAll,Bool.and_true]
 rfl
def af2{K:Frag}{F H:Hp}{x y:V}{t u:T}{b:Bool}(S:Same F H)(hx:Rep K F x t)(hy:Rep K F y u)(e:eqS t u=some b):(acK x y=true/\decide (x=y)=b)\/∃d e,jj K H x d/\jj K H y e/\SeqAt.shaped d=true/\SeqAt.shaped e=true/\PyData.eqv d e=b:=by
 unfold eqS at e;split at e<;>cases e
 .cases hx;cases hy;exact .inl ⟨rfl,by simp⟩
 .cases hx;cases hy;exact .inl ⟨rfl,by simp⟩
 .cases hx;cases hy;exact .inl ⟨rfl,by simp⟩
 .cases hx;cases hy;exact .inl ⟨rfl,rfl⟩
 .cases hx;cases hy;exact .inl ⟨rfl,rfl⟩
 .cases hx;cases hy;exact .inl ⟨rfl,rfl⟩
 .cases hx;cases hy;exact .inl ⟨rfl,rfl⟩
 .cases hx;cases hy;exact .inl ⟨rfl,rfl⟩
 .cases hx;cases hy;exact .inl ⟨rfl,rfl⟩
 .cases hx;cases hy;exact .inl ⟨rfl,rfl⟩
 .exact .inr ⟨.tuple [.int _,.int _],.tuple [.int _,.int _],(hx.shows _ rfl rfl).same S,(hy.shows _ rfl rfl).same S,rfl,rfl,aiR _ _ _ _⟩
def aau(neg:Bool){op:CmpOp}(h1:OpR X (compareOp op) λx y H Q=>acK x y=true/\Q (.bl (xr neg (decide (x=y)))) H)(h2:OpR X (compareOp op) (af9 X.K neg)):GO X (compareOp op) (gEq neg):=λaa s σ H x y v u Q I rx ry h=>by
 obtain⟨S,t,w,R,_,hx,hy,hg,k⟩:=h;have xe:∀b:Bool,(if neg then !b else b)=xr neg b:=λb=>by cases neg<;>rfl
 unfold gEq at hg;cases es:eqS t w with
 |some b =>
  rw[es]at hg;rcases af2 cC hx hy es with⟨a,c⟩|⟨d,e,s1,s2,s3,s4,c⟩
  .exact h1 aa s σ H x y v u Q I rx ry ⟨a,by rw[c];exact k H _ _ hg (.refl _) (NR.fz (.bl _))⟩
  .exact h2 aa s σ H x y v u Q I rx ry ⟨d,e,s1,s2,s3,s4,by rw[xe,c];exact k H _ _ hg (.refl _) (NR.fz (.bl _))⟩
 |none =>
  rw[es]at hg;obtain⟨d,e,e1,e2,s1,s2,q⟩:=hg;exact h2 aa s σ H x y v u Q I rx ry ⟨d,e,(hx.shows d e1 (Bool.and_eq_true_iff.mp s1).1).same cC,(hy.shows e e2 (Bool.and_eq_true_iff.mp s2).1).same cC,s1,s2,by rw[xe];exact k H _ _ q (.refl _) (NR.fz (.bl _))⟩
def go_eq(hu:X.A.units+64<cLine):GO X (compareOp .Eq) (gEq false):=aau false ajc (agQ hu)
def mj(hu:X.A.units+64<cLine):GO X (compareOp .NotEq) (gEq true):=aau true ahw (afZ hu)
def flat:OT->Prop
 |.fz (.int _)=>True
 |.fz (.bl _)=>True
 |.fz (.str _)=>True
 |.fz .non=>True
 |_=>False
def ams(i:Nat)(a:RE):RE:=λo q=>match slot o i with|.und=>False|x=>a (o.set i (.fz (frz x))) λy=>flat y/\q y
def aiH(i:Nat)(a:RT):RT:=λo q=>match slot o i with|.und=>False|x=>a (o.set i (.fz (frz x))) q
def V4{i:Nat}{o:List OT}{P:OT->Prop}(h:match slot o i with|.und=>False|x=>P x):P (slot o i)/\slot o i≠.und:=by
 cases e:slot o i<;>rw[e]at h<;>first|exact h.elim|exact⟨h,λz=>by cases z⟩
def Tn(i:Nat)(h:QE X e re):QE X e (ams i re):=PE.imp h λσ H Q hP=>by
 obtain⟨own,o,R,h,hr,k⟩:=hP;obtain⟨hr,ne⟩:=V4 (P:=λx=>re (o.set i (.fz (frz x))) λy=>flat y/\R y) hr;obtain⟨u,e1,s⟩:=h.val rfl ne;obtain⟨am,h',S⟩:=h.frz (ig rfl ne) e1;refine⟨am,_,_,h',hr,λH' v x q E n=>k H' v x q.2 E ?_⟩;have fl:=q.1;have rp:=n.rep λb z=>(h'.sole z).ne;cases x with
 |fz t=>cases t<;>first|exact fl.elim|(cases rp;first|exact NR.fz (.int _)|exact NR.fz (.bl _)|exact NR.fz (.str _)|exact NR.fz .non)
 |_=>exact fl.elim
def Ti(i:Nat)(h:QT X e rt):QT X e (aiH i rt):=PT.imp h λσ H Q hP=>by
 obtain⟨own,o,R,h,hr,k⟩:=hP;obtain⟨hr,ne⟩:=V4 (P:=λx=>rt (o.set i (.fz (frz x))) R) hr;obtain⟨u,e1,s⟩:=h.val rfl ne;obtain⟨am,h',S⟩:=h.frz (ig rfl ne) e1;exact⟨am,_,_,h',hr,k⟩
def Xb:T->Option Key
 |.int i=>some (.inl i)
 |.str s=>some (.inr s)
 |_=>none
def pC{α:Type} : List Key->List α->Key->Option α
 |k::ks,t::ts,j=>if k=j then some t else pC ks ts j
 |_,_,_=>none
def Oa{K:Frag}{F:Hp}{x:V}{t:T}{k:Key}(h:Rep K F x t)(e:Xb t=some k):x=kV k:=by
 cases h<;>cases e<;>rfl
theorem Ds{K:Frag}{F:Hp}{k:Key} : ∀{ks:List Key}{xs:Ε}{ts:List T},bV K F xs ts->(∀t,pC ks ts k=some t->∃x,G_ (ks.zip xs) k=some x/\Rep K F x t)/\(pC ks ts k=none->G_ (ks.zip xs) k=none)
 |[],_,_,_=>⟨λ_ z=>(nomatch z),λ_=>rfl⟩
 |_::_,_,_,.nil=>⟨λ_ z=>(nomatch z),λ_=>rfl⟩
 |j::ks,_,_,.cons a b=>by
  by_cases h:j=k
  .refine⟨λt z=>?_,λz=>?_⟩
   .unfold pC at z;rw[ZY h]at z;cases z;exact⟨_,Q7 h,a⟩
   .unfold pC at z;rw[ZY h]at z;cases z
  .obtain⟨i1,i2⟩:=Ds (k:=k) (ks:=ks) b;refine⟨λt z=>?_,λz=>?_⟩
   .unfold pC at z;rw[ZZ h]at z;obtain⟨x,e,r⟩:=i1 t z;exact⟨x,(Gx h).trans e,r⟩
   .unfold pC at z;rw[ZZ h]at z;exact(Gx h).trans (i2 z)
def ahl:zi
 |.dct ks ts,u,q=>∃k t,Xb u=some k/\pC ks ts k=some t/\q (.fz t)
 |_,_,_=>False
def Oh(hu:X.A.units+1<cLine)(ha:QE X a ra)(hb:QE X b rb)(hs:agj b:=by exact λ_ _=>rfl):QE X (.Subscript a b pos) (rOp ahl ra rb):=(adY hu ha hb hs).imp λσ H Q ⟨own,o,R,h,hr,k⟩=>tQ.mk h hr λH1 v x q E1 r1=>tQ.mk (h.same E1) q λH2 w y q E2 r2=>by
 have r1:=r1.same (bN E2)
 revert r1 q
 generalize frz x=t;intro q r1;cases t<;>try exact q.elim
 obtain⟨d,xs,rfl,e,l,r⟩:=r1.dctI;obtain⟨j,t,e1,e2,q⟩:=q;obtain⟨z,e3,r3⟩:=(Ds r).1 t e2;cases Oa r2 e1;exact⟨d,z,rfl,.inl ⟨_,_,cC.rd e,rfl,e3.symm⟩,k H2 _ _ q (E1.trans E2) (NR.fz r3)⟩
def afT(neg:Bool):zi
 |u,.dct ks ts,q=>∃k,Xb u=some k/\q (.fz (.bl (xr neg (pC ks ts k).isSome)))
 |_,_,_=>False
def abe{neg:Bool}{σ:L2.St}{H:Hp}{Q:VK}(h:tQ X.K (rOp (afT neg) ra rb) σ H Q):(tQ X.K ra) σ H λy H1=>(tQ X.K rb) σ H1 λx H2=>∃a o,x=.ref a/\Dj H2 a y o/\Q (.bl (xr neg o.isSome)) H2:=by
 obtain⟨own,o,R,h,hr,k⟩:=h;refine tQ.mk h hr λH1 v x q E1 r1=>tQ.mk (h.same E1) q λH2 w y q E2 r2=>?_;have r1:=r1.same (bN E2)
 revert r2 q
 generalize frz y=t;intro q r2;cases t with
 |dct ks ts =>
  obtain⟨d,xs,rfl,e,l,r⟩:=r2.dctI;obtain⟨j,e1,q⟩:=q;cases Oa r1 e1;refine⟨d,_,rfl,.inl ⟨_,_,cC.rd e,rfl,rfl⟩,?_⟩;have:(G_ (ks.zip xs) j).isSome=(pC ks ts j).isSome:=by
   cases z:pC ks ts j with
   |none=>rw[(Ds r).2 z];rfl
   |some t=>obtain⟨x,e,_⟩:=(Ds r).1 t z;rw[e];rfl
  rw[this];exact k H2 _ _ q (E1.trans E2) (NR.fz (.bl _))
 |_=>cases frz x<;>exact q.elim
def aeN{r:RE}{tt:TE}(i:∀σ H Q,tQ X.K r σ H Q->tt σ H Q){σ:L2.St}{H:Hp}{Q:Bool->Hp->Prop}(h:tQT X.K (rB r) σ H Q):tB tt σ H Q:=by
 obtain⟨own,o,R,h,hr,k⟩:=h;refine i σ H _ (tQ.mk h hr λH1 v x q E1 r1=>?_)
 revert r1 q
 generalize frz x=t;intro q r1;cases r1<;>try exact q.elim
 exact⟨_,rfl,k _ _ q E1⟩
def Z0(hu:X.A.units+1<cLine)(ha:QE X a ra)(hb:QE X b rb)(h1:behindInMarks .In b=false:=by rfl):QT X (.Compare a [.In] [b] pos) (rB (rOp (afT false) ra rb)):=(abL (agz hu ha hb) h1).imp λ_ _ _=>aeN λ_ _ _=>abe (neg:=false)
def Ys(hu:X.A.units+1<cLine)(ha:QE X a ra)(hb:QE X b rb)(h1:behindInMarks .NotIn b=false:=by rfl):QT X (.Compare a [.NotIn] [b] pos) (rB (rOp (afT true) ra rb)):=(abL (Xr hu ha hb) h1).imp λ_ _ _=>aeN λ_ _ _=>abe (neg:=true)
def akH:RE:=λ_ q=>q (.d1 [] [])
def N8:QE X (.Dict [] [] pos) akH:=Zm.imp λσ H Q ⟨own,o,R,h,hr,k⟩ p hp=>k _ _ _ hr (Same.upd hp) ⟨[p],λa ha=>(YR.mp ha) ▸ hp,p,[],rfl,rfl,bY,rfl,.nil⟩
def anu(i:Nat)(a b:RE):RS:=λE o=>match slot o i with|.d1 ks ts=>a o λy=>b o λk=>∃j,Xb (frz k)=some j/\pC ks ts j=none/\ks.length<sizeLine/\ks.length=ts.length/\E.nx (o.set i (.d1 (ks++[j]) (ts++[frz y])))|_=>False
end
def lkF{α:Type} : Θ->List α->Str->Option α
 |k::ks,t::ts,f=>if k=f then some t else lkF ks ts f
 |_,_,_=>none
def Jl:Θ->Str->Θ
 |[],f=>[f]
 |k::ks,f=>if k=f then k::ks else k::Jl ks f
def yU{α:Type} : Θ->List α->Str->α->List α
 |k::ks,t::ts,f,v=>if k=f then v::ts else t::yU ks ts f v
 |_,ts,_,v=>ts++[v]
theorem aaE{K:Frag}{F:Hp}{f:Str} : ∀{ks:Θ}{xs:Ε}{ts:List T},bV K F xs ts->(∀t,lkF ks ts f=some t->∃x,(ks.zip xs).lookup f=some x/\Rep K F x t)/\(lkF ks ts f=none->(ks.zip xs).lookup f=none)
 |[],_,_,_=>⟨λ_ z=>(nomatch z),λ_=>rfl⟩
 |_::_,_,_,.nil=>⟨λ_ z=>(nomatch z),λ_=>rfl⟩
 |j::ks,_,_,.cons a b=>by
  obtain⟨i1,i2⟩:=aaE (f:=f) (ks:=ks) b;by_cases h:j=f
  .refine⟨λt z=>?_,λz=>?_⟩
   .unfold lkF at z;rw[ZY h]at z;cases z;exact⟨_,by rw[List.zip_cons_cons,List.lookup_cons,h,beq_self_eq_true],a⟩
   .unfold lkF at z;rw[ZY h]at z;cases z
  .have e:∀x(r:List (Str×V)),((j,x)::r).lookup f=r.lookup f:=λx r=>by rw[List.lookup_cons,beq_false_of_ne (Ne.symm h)]
   refine⟨λt z=>?_,λz=>?_⟩
   .unfold lkF at z;rw[ZZ h]at z;obtain⟨x,e1,r⟩:=i1 t z;exact⟨x,(e _ _).trans e1,r⟩
   .unfold lkF at z;rw[ZZ h]at z;exact(e _ _).trans (i2 z)
theorem R3{f:Str}{v:V} : ∀{ks:Θ}{xs:Ε},ks.length=xs.length->uH f v (ks.zip xs)=(Jl ks f).zip (yU ks xs f v)/\(Jl ks f).length=(yU ks xs f v).length
 |[],[],_=>⟨rfl,rfl⟩
 |k::ks,x::xs,l=>by
  obtain⟨i1,i2⟩:=R3 (f:=f) (v:=v) (ks:=ks) (xs:=xs) (Nat.succ.inj l);show(if k=f then(k,v)::ks.zip xs else(k,x)::uH f v (ks.zip xs))=_/\_;unfold Jl yU;by_cases h:k=f
  .rw[ZY h,ZY h,ZY h];exact⟨rfl,l⟩
  .rw[ZZ h,ZZ h,ZZ h,i1];exact⟨rfl,ZH (· + 1) i2⟩
 |[],_::_,l=>by cases l
 |_::_,[],l=>by cases l
theorem bV.put{K:Frag}{F:Hp}{f:Str}{v:V}{t:T}(r:Rep K F v t):∀{ks:Θ}{xs:Ε}{ts:List T},bV K F xs ts->bV K F (yU ks xs f v) (yU ks ts f t)
 |[],_,_,h=>h.app (.cons r .nil)
 |_::_,_,_,.nil=>.cons r .nil
 |k::ks,_,_,.cons a b=>by
  unfold yU;by_cases h:k=f
  .rw[ZY h,ZY h];exact .cons r b
  .rw[ZZ h,ZZ h];exact .cons a (bV.put r b)
abbrev SI:=Addr->Θ->List T->List T->(Θ->List T->Prop)->Prop
def Slf(a dx b:Addr):Prop:=b=a\/b=dx
def spI(K:Frag)(S:SI):Sp:=λvs H Q _=>∃a dx C ks xs ts us as R,vs=.ref a::us/\H a=some (.ins C dx (ks.zip xs))/\H dx=some (.own a)/\ks.length=xs.length/\bV K (hd (Slf a dx) H) xs ts/\bV K (hd (Slf a dx) H) us as/\S C ks ts as R /\
 ∀H' eC eS cy,R eC cy->Same (hd (Slf a dx) H) (hd (Slf a dx) H')->H' a=some (.ins C dx (eC.zip eS))->H' dx=some (.own a)->eC.length=eS.length->bV K (hd (Slf a dx) H') eS cy->Q .non H'
section
variable{P:Program}{w:World}{K:Frag}{mg:Str->Ψ}{base:Heap}
def startI(n:Nat)(a dx C:Addr)(ks:Θ)(ts as:List T):List OT:=.ob a dx C ks ts::start' (n-1) as
def ah5(a dx:Addr):zC
 |0=>[a,dx]
 |_+1=>[]
def VR(a dx:Addr):Ow (ah5 a dx)=Slf a dx:=funext λb=>propext ⟨(λh=>by
  obtain⟨i,z⟩:=h;cases i with
  |zero =>
   rcases YU.mp z with z|z
   .exact .inl z
   .exact .inr (YR.mp z)
  |succ i=>cases z),λz=>⟨0,by show b∈[a,dx];rcases z with rfl|rfl<;>simp⟩⟩
def SR.startI{H:Hp}{a dx C:Addr}{ks:Θ}{xs:Ε}{ts as:List T}{us:Ε}(ha:H a=some (.ins C dx (ks.zip xs)))(br:H dx=some (.own a))(l:ks.length=xs.length)(r:bV K (hd (Slf a dx) H) xs ts)(r2:bV K (hd (Slf a dx) H) us as)(N:Θ)(hN:us.length+1<=N.length) :
  SR K (ah5 a dx) H (L2.start N (.ref a::us)) (L2.startI N.length a dx C ks ts as):=by
 have eO:=VR a dx;refine⟨?_,λi x e=>?_,λi hi b hb=>?_,λi j b e1 e2=>?_⟩
 .unfold L2.startI start' L2.start;have:=r2.len;simp only[List.length_cons,aA,ak,aN];lia
 .rw[eO];unfold L2.startI at e;cases i with
  |zero =>
   cases e;exact⟨xs,rfl,rfl,ha,br,l,r⟩
  |succ i =>
   rw[List.getElem?_cons_succ]at e;show Slo K _ _ _ [] x;unfold start' at e;unfold L2.start;rw[List.map_cons,List.cons_append,List.getElem?_cons_succ];by_cases hi:i<as.length
   .rw[aF (by simpa using hi),aq,aj hi]at e;cases e;obtain⟨v,e1,r1⟩:=r2.at_ (aj hi);rw[aF (by rw[ak,r2.len];exact hi),aq,e1];exact⟨rfl,v,rfl,r1⟩
   .rw[aD (by simpa using hi),ak,XG]at e;by_cases hj:i-as.length<N.length-1-as.length
    .rw[ZY hj]at e;cases e;rfl
    .rw[ZZ hj]at e;cases e
 .unfold L2.startI at hi;cases i with
  |zero=>cases hi
  |succ i=>cases hb
 .cases i with
  |zero =>
   cases j with
   |zero=>rfl
   |succ j=>cases e2
  |succ i=>cases e1
def Fun.okI{x ah:Str}{st:Stmt}{f:Addr}{fd:FuncData}{N ps:Θ}{k:Nat}{S:SI}(F:Fun K x ah st f fd)(sc:bK N ps (bF st))(len:∀C ks ts as R,S C ks ts as R->as.length+1=ps.length)(hn:ps.length<=N.length)
 (be:∀(ai:Value)(A:Around)(outer:List Env)(s:Shared)(H:Hp)(E:XK),dh k (A.deeper (envOfC ah (bF st) s.heap.objs.size f ai))->N.Nodup ->
   ∃r,QSs (zX CX0 P w K mg base N ah (bF st) f ai A outer s H E).nox (eU st) r/\∀a dx C ks ts as R,S C ks ts as R->r { nx:=λo=>∃eC cy,slot o 0=.ob a dx C eC cy/\R eC cy,rt:=λ_=>False } (startI N.length a dx C ks ts as)):dI P w K mg base CX0 (k+1) f fd ps (spI K S):=by
 refine F.ok sc (λvs H Q E h=>?_) λai A outer s H vs Q E hr h=>?_
 .obtain⟨a,dx,C,ks,xs,ts,us,as,R,rfl,_,_,_,_,r2,hS,_⟩:=h;rw[List.length_cons,r2.len];exact len _ _ _ _ _ hS
 .obtain⟨a,dx,C,ks,xs,ts,us,as,R,rfl,ha,br,l,r,r2,hS,q⟩:=h;obtain⟨rd,h1,h2⟩:=be ai A outer s H E hr sc.nd;have s0:=SR.startI ha br l r r2 N (by rw[r2.len,len _ _ _ _ _ hS];exact hn);have eO:=VR a dx;refine⟨_,h1,_,_,_,s0,h2 a dx C ks ts as R hS,⟨λown H' σ o rx E h=>?_,λ_ _ _ _ _ z=>z.elim,λ_ _ _ _ z=>z.elim,λ_ _ _ _ z=>z.elim,λ_ _ _ _ _ _ z=>z.elim⟩⟩;obtain⟨eC,cy,es,rx⟩:=rx;rw[eO]at E;obtain⟨u,_,eS,e1,e2,e3,e4,e5,e6⟩:=h.val es (by intro z;cases z);have sub:Same (hd (Ow own) H') (hd (Slf a dx) H'):=gW (λb z=>.inl ⟨0,by rw[e2];rcases z with rfl|rfl<;>simp⟩) λ_ _ z=>z;exact q H' eC eS cy rx (E.trans sub) e3 e4 e5 (e6.same sub)
end
section
variable{X:Cx}{e:Expr}{es:List Expr}{re:RE}{r:RA}{f:Str}{pos ag p:Pos}{Fm:Addr->Prop}
def aeR(Fm:Addr->Prop)(i:Nat)(f:Str):RE:=λo q=>match slot o i with|.ob _ _ C ks ts=>Fm C/\∃t,lkF ks ts f=some t/\q (.fz t)|_=>False
def ac3(i:Nat){x:Str}(c:∀C,Fm C->Cls X.K C/\bZ X.K C f)(hN:X.N[i]?=some x:=by rfl)(hv:pP X.env.scope x=true:=by rfl)(br:zk x:=by decide)(a8:zw x:=by decide)(hb:attributeBase (.Name x p) f X.env (eval (.Name x p) X.env)=eval (.Name x p) X.env:=by rfl):QE X (.Attribute (.Name x p) f pos) (aeR Fm i f):=(aa7 (pv i hN hv br a8) hb).imp λσ H Q hP=>by
 obtain⟨own,o,R,h,hr,k⟩:=hP;unfold aeR at hr;cases es:slot o i with
 |ob a dx C ks ts =>
  rw[es]at hr;obtain⟨u,e1,xs,e2,e3,e4,e5,l,r⟩:=h.val es (by intro z;cases z);cases e2;obtain⟨hf,t,e6,q⟩:=hr;obtain⟨v,e7,r7⟩:=(aaE r).1 t e6;exact⟨_,e1,a,C,dx,_,v,rfl,e4,(c C hf).1,(c C hf).2,e7,k H _ _ q (.refl _) (NR.fz r7)⟩
 |_=>rw[es]at hr;exact hr.elim
def aeV(Fm:Addr->Prop)(i:Nat)(f:Str)(a:RE):RS:=λE o=>match slot o i with|.ob b dx C ks ts=>a o λy=>(Fm C/\ks.length<1000)/\E.nx (o.set i (.ob b dx C (Jl ks f) (yU ks ts f (frz y))))|_=>False
def p7(i:Nat){x:Str}{ax:Pos}(c:∀C,Fm C->Cls X.K C/\bZ X.K C f)(he:QE X e re)(hN:X.N[i]?=some x:=by rfl)(hv:pP X.env.scope x=true:=by rfl)(br:zk x:=by decide)(a8:zw x:=by decide)(hs:swapsWith e (some (.Attribute (.Name x p) f ax)) pos.line X.env=pure false:=by rfl):QS X (.Assign [.Attribute (.Name x p) f ax] e pos) (aeV Fm i f re):=(agF (pv i hN hv br a8) he hs).imp λD σ H hP=>by
 obtain⟨own,o,E,h,hr,L⟩:=hP;unfold aeV at hr;cases es:slot o i with
 |ob a dx C ks ts =>
  rw[es]at hr;obtain⟨u,e1,xs,e2,e3,e4,e5,l,r⟩:=h.val es (by intro z;cases z);cases e2;refine tQ.mk h hr λH1 v y q E1 r1=>⟨_,e1,a,C,dx,_,rfl,E1 _ _ e4,(c C q.1.1).1,(c C q.1.1).2,by rw[VV,<- l,Up];exact q.1.2,?_⟩;obtain⟨pz,pl⟩:=R3 (f:=f) (v:=v) l;rw[pz];have iq:dx≠a:=Hu e5 e4 (by intro z;cases z);obtain⟨h',S⟩:=(h.same E1).chg (ig es (by intro z;cases z)) (y:=.ob a dx C (Jl ks f) (yU ks ts f (frz y))) (H':=upd H1 a (.ins C dx ((Jl ks f).zip (yU ks xs f v)))) (λb u hb e=>(bO λz=>hb (by rw[e3,z];simp)).trans e) (by
   rw[e1,vN ⟨i,by rw[e3];simp⟩];exact⟨_,rfl,e3,bY,(bO iq).trans (E1 _ _ e5),pl,bV.put r1 (r.same (bN E1))⟩)
  exact L.nx own _ σ _ q.2 ((bN E1).trans S) h'
 |_=>rw[es]at hr;exact hr.elim
def amG(Fm:Addr->Prop)(f:Str)(a:RE):RE:=λo q=>a o λx=>match frz x with|.ins C ks ts=>Fm C/\∃t,lkF ks ts f=some t/\q (.fz t)|_=>False
def rT(c:∀C,Fm C->Cls X.K C/\bZ X.K C f)(he:QE X e re)(hb:zt X e f:=by rfl):QE X (.Attribute e f pos) (amG Fm f re):=(aa7 he hb).imp λσ H Q ⟨own,o,R,h,hr,k⟩=>tQ.mk h hr λH1 v x q E1 r1=>by
 revert r1 q
 generalize frz x=t;intro q r1;cases t<;>try exact q.elim
 obtain⟨a,dx,xs,rfl,e,d,l,r⟩:=r1.insI;obtain⟨hf,t,e6,q⟩:=q;obtain⟨v,e7,r7⟩:=(aaE r).1 t e6;exact⟨a,_,dx,_,v,rfl,(cI e).2,(c _ hf).1,(c _ hf).2,e7,k H1 _ _ q E1 (NR.fz r7)⟩
abbrev OkM(X:Cx)(k:Nat)(fa:Addr)(ps:Θ)(S:ST):Prop:=zI X CX0 k fa ps (spT X.K S)
def OkI.hid{P:Program}{w:World}{K:Frag}{mg:Str->Ψ}{base:Heap}{k:Nat}{fa:Addr}{ps:Θ}{sp:Sp}(G:OkI P w K mg base CX0 k fa ps sp):OkI P w K mg base CX0 k fa ps (spH sp):=by obtain⟨fd,F,b⟩:=G;exact⟨fd,F.hid,b⟩
def R0{S:ST}{H1:Hp}{σ:L2.St}{own:zC}{o:List OT}{R:OT->Prop}{Q:VK}{vs:Ε}{ts:List T}{E:XK}(h1:SR X.K own H1 σ o)(r1:bV X.K (hd (Ow own) H1) vs ts)(q:S ts R)(k:∀H' v x,R x->Same H1 H'->NR X.K (Ow own) H1 H' v x->Q v H'):spH (spT X.K S) vs H1 Q E:=by
 refine⟨Ow own,h1.hid,ts,R,r1,q,λG v x rx E n bn=>?_⟩;have EH:Same H1 (mrg (Ow own) H1 G):=λb u e=>by
  by_cases z:Ow own b
  .rw[xU z];exact e
  .rw[lZ z];exact E b u ((cL z).trans e)
 have EG:Same G (mrg (Ow own) H1 G):=λb u e=>by rw[lZ λz=>by rw[bn b z]at e;cases e];exact e
 refine k _ v x rx EH ?_;obtain⟨B,nb,s⟩:=n;have out:∀a∈B,¬Ow own a:=λa ha z=>(s.sole ha).ne (bn a z);refine⟨B,λa ha=>by have:=nb a ha;rwa[cL (out a ha)]at this,s.same (gW (λb z=>?_) EG) EG⟩;rcases z with z|z
 .exact .inr (bn b z)
 .exact .inl (.inr z)
def aeP(C:Addr)(KS:Θ)(S:ST)(a:RE)(r:RA):RE:=λo q=>a o λx=>match frz x with|.ins C' ks ts=>(C'=C/\ks=KS)/\r o λas=>S (.ins C' ks ts::as) q|_=>False
theorem Ga{f:Str} : ∀{KS:Θ}{xs:Ε},f∉KS->(KS.zip xs).lookup f=none
 |[],_,_=>rfl
 |_::_,[],_=>rfl
 |k::KS,x::xs,h=>by
  rw[List.zip_cons_cons,List.lookup_cons,beq_false_of_ne λ(z:f=k)=>h (by rw[z];exact aO ..)];exact Ga λz=>h (aJ _ z)
def BK{o:Expr}{ro:RE}{k:Nat}{fa C:Addr}{ps KS:Θ}{S:ST}{pl:Sem Bool}(he:QE X o ro)(c:Cls X.K C)(hm:Meth X.K C f fa)(G:OkM X k fa ps S)(ha:QA X (e::es) r)(hr:dh k X.A:=by exact dh.mono (by assumption) (by decide))(hk:f∉KS:=by decide +kernel)
 (bj:zb X e es:=by rfl)(aE:zg X pos es:=by rfl)
 (ht:eval (.Call (.Attribute o f ag) (e::es) [] pos) X.env=(do
   let ov <- eval o X.env
   standAt ag.atName
   let(f,first) <- holding [ov] (getMethod ov f pl)
   callWith pos f first (backTo pos (starEach (e::es) X.env)) (backToKw pos (keywordEach [] X.env))):=by rfl) :
  QE X (.Call (.Attribute o f ag) (e::es) [] pos) (aeP C KS S ro r):=(Zq (pl:=pl) he c hm (OkI.hid G) hr ha bj aE ht).imp λσ H Q ⟨own,o,R,h,hr,k⟩=>tQ.mk h hr λH1 v x q E1 r1=>by
 revert r1 q
 generalize frz x=t;intro q r1;cases t<;>try exact q.elim
 obtain⟨a,dx,xs,rfl,e,d,l,r⟩:=r1.insI;obtain⟨⟨rfl,rfl⟩,q⟩:=q;refine⟨a,dx,_,rfl,(cI e).2,Ga hk,tQA.mk (h.same E1) q λH2 vs as q _ E2 r2=>?_⟩;exact R0 ((h.same E1).same E2) (.cons (r1.same (bN E2)) r2) q λH' v x rx E n=>k H' v x rx (E1.trans (E2.trans E)) (n.back (E1.trans E2))
def pO{o:Expr}{ro:RE}{k:Nat}{fa C:Addr}{ps KS:Θ}{S:ST}{pl:Sem Bool}(he:QE X o ro)(c:Cls X.K C)(hm:Meth X.K C f fa)(G:OkM X k fa ps S)(hr:dh k X.A:=by exact dh.mono (by assumption) (by decide))(hk:f∉KS:=by decide +kernel)
 (ht:eval (.Call (.Attribute o f ag) [] [] pos) X.env=(do
   let ov <- eval o X.env
   standAt ag.atName
   let(f,first) <- holding [ov] (getMethod ov f pl)
   callWith pos f first (backTo pos (starEach [] X.env)) (backToKw pos (keywordEach [] X.env))):=by rfl) :
  QE X (.Call (.Attribute o f ag) [] [] pos) (aeP C KS S ro agn):=(YD (pl:=pl) he c hm (OkI.hid G) hr ht).imp λσ H Q ⟨own,o,R,h,hr,k⟩=>tQ.mk h hr λH1 v x q E1 r1=>by
 revert r1 q
 generalize frz x=t;intro q r1;cases t<;>try exact q.elim
 obtain⟨a,dx,xs,rfl,e,d,l,r⟩:=r1.insI;obtain⟨⟨rfl,rfl⟩,q⟩:=q;refine⟨a,dx,_,rfl,(cI e).2,Ga hk,?_⟩;exact R0 (E:=E0) (h.same E1) (.cons r1 .nil) q λH' v x rx E n=>k H' v x rx (E1.trans E) (n.back E1)
def aiz(C:Addr)(S:SI)(r:RA):RE:=λo q=>r o λas=>S C [] [] as λks ts=>q (.fz (.ins C ks ts))
def Af{x:Str}{k:Nat}{fa C:Addr}{ps:Θ}{S:SI}(M:Mk X.K C fa)(G:zI X CX0 k fa ps (spI X.K S))(hm:X.mg x=some (.ref C))(ha:QA X (e::es) r)(hr:dh (k+1) X.A:=by exact dh.mono (by assumption) (by decide))(hg:Gl X x:=by rfl)(bz:zk x:=by decide)
 (he:zb X e es:=by rfl)(aE:zg X pos es:=by rfl):QE X (.Call (.Name x p) (e::es) [] pos) (aiz C S r):=(Ze M (OkI.hid G) hr hg hm ha bz he aE).imp λσ H Q ⟨own,o,R,h,hr,k⟩=>tQA.mk h hr λH1 vs as q _ E1 r1 a dx na nd ne=>by
 have h1:=h.same E1;have E2:Same H1 (upd (upd H1 dx (.own a)) a (.ins C dx [])):=(Same.upd nd).trans (Same.upd ((bO (Ne.symm ne)).trans na));have h2:=h1.same E2;have oa:¬Ow own a:=λz=>(h1.sole z).ne na;have od:¬Ow own dx:=λz=>(h1.sole z).ne nd;refine⟨Ow own,h2.hid,a,dx,C,[],[],[],vs,as,_,rfl,(cL oa).trans bY,(cL od).trans ((bO ne).trans bY),rfl,.nil,r1.same (λb u e=>?_),q,λG eC eS cy rx E ea ed l r bn=>⟨rfl,?_⟩⟩
 .obtain⟨n,e⟩:=cI e;have n2:¬Slf a dx b:=λz=>by rcases z with rfl|rfl<;>rw[e]at *<;>contradiction
  rw[cL n2,cL n];exact E2 _ _ e
 .have EG:Same G (mrg (Ow own) (upd (upd H1 dx (.own a)) a (.ins C dx [])) G):=λb u e=>by rw[lZ λz=>by rw[bn b z]at e;cases e];exact e
  refine k _ _ _ rx (E1.trans λb u e=>?_) (NR.fz (.ins (dx:=dx) (ks:=eC) (xs:=eS) ?_ ?_ l (r.same λb u e=>?_)))
  .by_cases z:Ow own b
   .rw[xU z];exact E2 _ _ e
   .have n2:¬Slf a dx b:=λz=>by rcases z with rfl|rfl<;>rw[e]at *<;>contradiction
    exact EG _ _ (cI (E b u ((cL n2).trans ((cL z).trans (E2 _ _ e))))).2
  .rw[cL oa];exact EG _ _ ea
  .rw[cL od];exact EG _ _ ed
  .have e':=(cI e).2;rw[cL λz=>by rw[bn b z]at e';cases e'];exact EG _ _ e'
def aeD(i:Nat)(S:SI)(r:RA):RS:=λE o=>match slot o i with|.ob a dx C ks ts=>r o λas=>S C ks ts as λeC cy=>E.nx (o.set i (.ob a dx C eC cy))|_=>False
def Gh(i:Nat){x y m:Str}{p2 af:Pos}{k:Nat}{fa B:Addr}{ps:Θ}{S:SI}{pl:Sem Bool}(c:Ej X.K B m fa)(G:zI X CX0 k fa ps (spI X.K S))(hm:X.mg x=some (.ref B))(ha:QA X es r)(hr:dh k X.A:=by exact dh.mono (by assumption) (by decide))(hg:Gl X x:=by rfl)
 (hN:X.N[i]?=some y:=by rfl)(hv:pP X.env.scope y=true:=by rfl)(br:zk y:=by decide)(a8:zw y:=by decide)(bz:zk x:=by decide)
 (bj:starEach (.Name y p2::es) X.env=(false,eval (.Name y p2) X.env)::starEach es X.env:=by rfl)(aE:zg X af es:=by rfl)
 (ht:eval (.Call (.Attribute (.Name x p) m ag) (.Name y p2::es) [] af) X.env=(do
   let ov <- eval (.Name x p) X.env
   standAt ag.atName
   let(f,first) <- holding [ov] (getMethod ov m pl)
   callWith af f first (backTo af (starEach (.Name y p2::es) X.env)) (backToKw af (keywordEach [] X.env))):=by rfl)
 (hs:swapsWith (.Call (.Attribute (.Name x p) m ag) (.Name y p2::es) [] af) none pos.line X.env=pure false:=by rfl) :
  QS X (.Expr (.Call (.Attribute (.Name x p) m ag) (.Name y p2::es) [] af) pos) (aeD i S r):=(iY (aaH (pl:=pl) c (OkI.hid G) hr hg hm (cA (pv i hN hv br a8) ha bj) bz bj aE ht) hs).imp λD σ H hP=>by
 obtain⟨own,o,E,h,hr,L⟩:=hP;unfold aeD at hr;cases es:slot o i with
 |ob a dx C ks ts =>
  rw[es]at hr;obtain⟨u,e1,xs,e2,e3,e4,e5,l,r⟩:=h.val es (by intro z;cases z);cases e2;refine⟨_,e1,tQA.mk h hr λH1 vs as q _ E1 r1=>?_⟩;have h1:=h.same E1;have sub:∀b,Slf a dx b->b∈own i:=λb z=>by rw[e3];rcases z with rfl|rfl<;>simp
  have bus:∀b,b∈own i->Slf a dx b:=λb z=>by
   rw[e3]at z;rcases YU.mp z with z|z
   .exact .inl z
   .exact .inr (YR.mp z)
  have hid:Hid H1 (λb=>Ow own b/\¬Slf a dx b):=⟨λb z=>h1.sole z.1,λb C d f ⟨⟨j,z⟩,n⟩ e=>⟨⟨j,(h1.mate z).1 C d f e⟩,λy=>n (bus b ((h1.dis j i d ((h1.mate z).1 C d f e) (sub d y)) ▸ z))⟩,λb x ⟨⟨j,z⟩,n⟩ e=>⟨⟨j,(h1.mate z).2 x e⟩,λy=>n (bus b ((h1.dis j i x ((h1.mate z).2 x e) (sub x y)) ▸ z))⟩⟩;have eqF:∀H':Hp,hd (Slf a dx) (hd (λb=>Ow own b/\¬Slf a dx b) H')=hd (Ow own) H':=λH'=>funext λb=>by
   by_cases z:Slf a dx b
   .rw[n8 z,n8 ⟨i,sub b z⟩]
   .rw[cL z];by_cases y:Ow own b
    .rw[n8 (⟨y,z⟩ : Ow own b/\¬Slf a dx b),n8 y]
    .rw[cL (λw=>y w.1),cL y]
  have na:¬(Ow own a/\¬Slf a dx a):=λz=>z.2 (.inl rfl);have nd:¬(Ow own dx/\¬Slf a dx dx):=λz=>z.2 (.inr rfl);refine⟨_,hid,a,dx,C,ks,xs,ts,vs,as,_,rfl,(cL na).trans (E1 _ _ e4),(cL nd).trans (E1 _ _ e5),l,by rw[eqF];exact r.same (bN E1),by rw[eqF];exact r1,q,λG eC eS cy rx EE ea ed l' r' bn=>?_⟩;rw[eqF]at EE;have di:∀{b:Addr}{u:HO},G b=some u->mrg (λb=>Ow own b/\¬Slf a dx b) H1 G b=some u:=λ{b u}e=>(lZ λz=>by rw[bn b z]at e;cases e).trans e;obtain⟨h',S'⟩:=h1.chg (ig es (by intro z;cases z)) (y:=.ob a dx C eC cy) (H':=mrg (λb=>Ow own b/\¬Slf a dx b) H1 G) (λb u hb e=>by
   by_cases z:Ow own b
   .rw[xU ⟨z,λy=>hb (sub b y)⟩];exact e
   .exact di (cI (EE b u ((cL z).trans e))).2) (by
   rw[e1];refine⟨eS,rfl,e3,di ea,di ed,l',r'.same λb u e=>?_⟩;obtain⟨n1,e⟩:=cI e;rw[cL λz=>by rw[bn b ⟨z,n1⟩]at e;cases e];exact di e)
  exact L.nx own _ σ _ rx ((bN E1).trans S') h'
 |_=>rw[es]at hr;exact hr.elim
end
section
variable{X:Cx}{a b c e:Expr}{ra rb rc re:RE}{pos p:Pos}
def jY{x:Str}{A:Addr}{i j:Int}{pos:Pos}(hm:X.mg x=some (.ref A))(kt:∀H,SqT X.K H A [.int i,.int j])(hg:Gl X x:=by rfl)(hd:zk x:=by decide):QE X (.Name x pos) (rC (.tup [.int i,.int j])):=qC (Z5 hg hm hd) λF=>.tup (kt F) (.cons (.int _) (.cons (.int _) .nil))
def QE.any{Fm:Addr->Prop}{r:Addr->RE}(h:∀C,Fm C->QE X e (r C)):QE X e (λo q=>∃C,Fm C/\r C o q):=λaa s σ H Q I ⟨own,o,R,hs,⟨C,hC,hr⟩,k⟩=>h C hC aa s σ H Q I ⟨own,o,R,hs,hr,k⟩
def sS{tg iter bg:Expr}{aI:List Expr}{ri:RI}{g:zn}{rc:RT}{scope:Scope}{i0:Nat}{y0:Str}{py cb:Pos}(sc:Scope)(N N' xs:Θ)(hi:QI X tg iter ri)(hg:∀{C s₀ H₀ ex pn},QG (X.compG N' scope xs C s₀ H₀ ex pn) xs.length tg g)(ht:∀{C s₀ H₀ ex pn},QTs (X.compG N' scope xs C s₀ H₀ ex pn) aI rc)(he:∀{C s₀ H₀ ex pn},QE (X.compG N' scope xs C s₀ H₀ ex pn) bg re)(gf:PG X (.Name y0 py) (yO i0))
 (cS:X.env.scope=sc:=by rfl)(c8:X.N=N:=by rfl)(hc:X.calm=true:=by rfl)(hk:scope.kind=.function:=by rfl)(h:CK sc scope N N' xs:=by decide +kernel)(f':swapsWith (.ListComp bg [⟨tg,iter,aI,0⟩] scope pos) (some (.Name y0 py)) cb.line X.env=pure true:=by rfl)(hs:zh X iter:=by intro _;rfl) :
  QS X (.Assign [.Name y0 py] (.ListComp bg [⟨tg,iter,aI,0⟩] scope pos) cb) (aio i0 (Yz ri xs.length g rc re)):=(abU (gt:=tQG X.K xs.length g) (tc:=tQT X.K rc) (te:=tQ X.K re) sc N N' xs hi hg ht he gf cS c8 hc hk h f' hs).imp λD σ H ⟨own,o,E,h,hr,L⟩=>G3 ⟨own,o,_,h,hr,λH' v y q S n=>by
 obtain⟨am,h',S'⟩:=h.putA S (n.frz λb z=>(h.sole z).ne) i0;exact L.nx am H' _ _ q S' h'⟩
def anc(i j:Nat)(r:RA):RS:=λE o=>r o λts=>match ts with|[t,u]=>E.nx ((o.set i (.fz t)).set j (.fz u))|_=>False
def ahb(i j:Nat){x y:Str}{r:RA}{px py pt:Pos}{kt k2 pt2}(hc:X.calm=true)(hN:X.N.Nodup)(i8:i≠j)(ha:QA X [a,b] r)(hi:X.N[i]?=some x:=by rfl)(hj:X.N[j]?=some y:=by rfl)
 (hx:X.env.scope.names.lookup x=some .local:=by rfl)(hy:X.env.scope.names.lookup y=some .local:=by rfl)
 (hw:swappedStores [.Tuple [.Name x px,.Name y py] kt pt] (.Tuple [a,b] k2 pt2) X.env=pure (some [x,y]):=by rfl)
 (hs:swapsWithSole [.Tuple [.Name x px,.Name y py] kt pt] (.Tuple [a,b] k2 pt2) pos.line X.env=pure false:=by rfl) :
  QS X (.Assign [.Tuple [.Name x px,.Name y py] kt pt] (.Tuple [a,b] k2 pt2) pos) (anc i j r):=(afy hc hN hi hj i8 hx hy ha hw hs).imp λD σ H ⟨own,o,E,h,hr,L⟩=>⟨own,o,_,h,hr,λH1 vs ts q _ E1 r1=>by
 match ts,q with
 |[t,u],q =>
  obtain⟨v,w,rfl,rv,mr⟩:=r1.two;refine⟨v,w,rfl,?_⟩;obtain⟨am,h',go⟩:=(h.same E1).setF rv (X0 i);obtain⟨b6,h2,S2⟩:=h'.putA (.refl _) (NR.fz (mr.same go.same)) j;exact L.nx b6 H1 _ _ q ((bN E1).trans (go.same.trans S2)) h2⟩
def ix2{α β:Type}{xs:List α}{ys:List β}{j:Int}{y:β}(l:xs.length=ys.length)(e:ixT ys j=some y):∃n x,ixN ys.length j=some n/\ys[n]?=some y/\xs[n]?=some x/\atI xs j=some x:=by
 rw[U_]at e;unfold atI at e ⊢;rw[l];cases z:ixN ys.length j with
 |none=>rw[z]at e;cases e
 |some n =>
  rw[z]at e;have hn:n<xs.length:=l ▸ (ao.mp e).1;exact⟨n,xs[n],rfl,e,aj hn,aj hn⟩
theorem Bc{α:Type} : ∀{l:List α},l.Nodup->∀{i j:Nat}{x:α},l[i]?=some x->l[j]?=some x->i=j
 |[],_,_,_,_,e,_=>by cases e
 |y::l,nd,i,j,x,e1,e2=>by
  obtain⟨n1,n2⟩:=List.nodup_cons.mp nd;cases i with
  |zero =>
   cases j with
   |zero=>rfl
   |succ j=>cases e1;exact absurd (aC (by simpa using e2)) n1
  |succ i =>
   cases j with
   |zero=>cases e2;exact absurd (aC (by simpa using e1)) n1
   |succ j=>exact ZH (· + 1) (Bc n2 (by simpa using e1) (by simpa using e2))
def SR.l2{K:Frag}{own:zC}{H:Hp}{σ:L2.St}{o:List OT}(h:SR K own H σ o){i:Nat}{tss:List (List T)}(e:slot o i=.l2 tss):∃l bs,σ[i]?=some (some (.ref l))/\own i=l::bs/\(l::bs).Nodup/\H l=some (.lst (bs.map V.ref))/\bs.length=tss.length/\∀(i:Nat)b ts,bs[i]?=some b->tss[i]?=some ts->∃xs,H b=some (.lst xs)/\bV K (hd (Ow own) H) xs ts:=by
 obtain⟨u,e1,l,bs,e2,e3,nd,e4,ln,r⟩:=h.val e (by intro z;cases z);cases e2;exact⟨l,bs,e1,e3,nd,e4,ln,r⟩
def SR.chg2{K:Frag}{own:zC}{H:Hp}{σ:L2.St}{o:List OT}(h:SR K own H σ o){i n:Nat}{tss:List (List T)}(e:slot o i=.l2 tss){l b:Addr}{bs:Φ}{ys:Ε}{us:List T}(eσ:σ[i]?=some (some (.ref l)))(eo:own i=l::bs)(nd:(l::bs).Nodup)(e4:H l=some (.lst (bs.map V.ref)))(ln:bs.length=tss.length)(r:∀(i:Nat)b ts,bs[i]?=some b->tss[i]?=some ts->∃xs,H b=some (.lst xs)/\bV K (hd (Ow own) H) xs ts)(eb:bs[n]?=some b)(ry:bV K (hd (Ow own) H) ys us) :
  SR K own (upd H b (.lst ys)) σ (o.set i (.l2 (tss.set n us)))/\Same (hd (Ow own) H) (hd (Ow own) (upd H b (.lst ys))):=by
 have bm:=aC eb;obtain⟨nl,nd'⟩:=List.nodup_cons.mp nd;refine h.chg (ig e (by intro z;cases z)) (λc u hc e=>(bO λz=>hc (by rw[eo,z];exact aJ _ bm)).trans e) ?_;rw[eσ,vN ⟨i,by rw[eo];exact aJ _ bm⟩];refine⟨l,bs,rfl,eo,nd,(bO λ(z:l=b)=>nl (by rw[z];exact bm)).trans e4,by rw[WH];exact ln,λk c ts e1 e2=>?_⟩;by_cases z:k=n
 .subst z;rw[eb]at e1;cases e1;rw[VT (ln ▸ (ao.mp eb).1)]at e2;cases e2;exact⟨ys,bY,ry⟩
 .rw[VY (Ne.symm z)]at e2;obtain⟨xs,q,rx⟩:=r k c ts e1 e2;refine⟨xs,(bO λy=>?_).trans q,rx⟩;have h1:=(ao.mp e1).1;have h2:=(ao.mp eb).1;exact z (Bc nd' e1 (by rw[eb,y]))
def Vg{bs:Φ}{j:Int}{c:Addr}(e:atI bs j=some c):atI (bs.map V.ref) j=some (.ref c):=by
 have:atI (bs.map V.ref) j=(atI bs j).map V.ref:=by unfold atI;rw[ak];cases ixN bs.length j<;>simp
 rw[this,e];rfl
def aem(i:Nat)(a b:RE):RE:=λo q=>match slot o i with
 |.l2 tss=>a o λx=>(match frz x with|.int j=>∃ts,ixT tss j=some ts/\b o λy=>(match frz y with|.int m=>∃t,ixT ts m=some t/\q (.fz t)|_=>False)|_=>False)
 |_=>False
def ade(i:Nat){x:Str}{p2:Pos}(ha:QE X a ra)(hb:QE X b rb)(hN:X.N[i]?=some x:=by rfl)(hv:pP X.env.scope x=true:=by rfl)(br:zk x:=by decide)
 (a8:zw x:=by decide)(gz:uh a:=by exact λ_ _=>rfl)(hs:uh b:=by exact λ_ _=>rfl):QE X (.Subscript (.Subscript (.Name x p) a p2) b pos) (aem i ra rb):=(KC yh (KC yh (pv i hN hv br a8) ha gz) hb hs).imp λσ H Q hP=>by
 obtain⟨own,o,R,h,hr,k⟩:=hP;unfold aem at hr;cases es:slot o i with
 |l2 tss =>
  rw[es]at hr;obtain⟨l,bs,e1,e3,nd,e4,ln,r⟩:=h.l2 es;refine⟨_,e1,tQ.mk h hr λH1 v x q E1 r1=>?_⟩
  revert r1 q
  generalize frz x=t;intro q r1;cases t<;>try exact q.elim
  cases r1;obtain⟨ts,ej,q⟩:=q;obtain⟨n,c,_,et,ec,ei⟩:=ix2 (xs:=bs) ln ej;obtain⟨xs,eq,rx⟩:=r n c ts ec et;refine⟨l,bs.map V.ref,_,.ref c,rfl,rfl,.of (E1 _ _ e4),?_,tQ.mk (h.same E1) q λH2 w y q E2 r2=>?_⟩
  .exact Vg ei
  .revert r2 q
   generalize frz y=t;intro q r2;cases t<;>try exact q.elim
   cases r2;obtain⟨t,em,q⟩:=q;obtain⟨z,e7,r7⟩:=rx.ix em;have b5:=E1.trans E2;exact⟨c,xs,_,z,rfl,rfl,.of (b5 _ _ eq),e7,k H2 _ _ q b5 (NR.fz (r7.same (bN b5)))⟩
 |_=>rw[es]at hr;exact hr.elim
def aes(i:Nat)(a b:RE):RS:=λE o=>match slot o i with
 |.l2 tss=>a o λx=>(match frz x with|.int j=>∃n ts,ixN tss.length j=some n/\tss[n]?=some ts/\ts.length<sizeLine/\b o λy=>E.nx (o.set i (.l2 (tss.set n (ts++[frz y]))))|_=>False)
 |_=>False
def ix3{α β:Type}{xs:List α}{ys:List β}{j:Int}{n:Nat}{y:β}(l:xs.length=ys.length)(e:ixN ys.length j=some n)(ey:ys[n]?=some y):∃x,xs[n]?=some x/\atI xs j=some x:=by
 have hn:n<xs.length:=l ▸ (ao.mp ey).1;exact⟨xs[n],aj hn,by unfold atI;rw[l,e];exact aj hn⟩
def adb(i:Nat){x:Str}{ag af p2:Pos}(ha:QE X a ra)(he:QE X e re)(hN:X.N[i]?=some x:=by rfl)(hv:pP X.env.scope x=true:=by rfl)(br:zk x:=by decide)(a8:zw x:=by decide)(gz:uh a:=by exact λ_ _=>rfl)
 (hb:attributeBase (.Subscript (.Name x p) a p2) "append" X.env (eval (.Subscript (.Name x p) a p2) X.env)=eval (.Subscript (.Name x p) a p2) X.env:=by rfl)
 (hf:zo X af e:=by rfl)
 (hl:zD ag af:=by rfl)(bj:zb X e []:=by rfl)(hp:zg X af []:=by rfl)
 (hs:swapsWith (.Call (.Attribute (.Subscript (.Name x p) a p2) "append" ag) [e] [] af) none pos.line X.env=pure false:=by rfl) :
  QS X (.Expr (.Call (.Attribute (.Subscript (.Name x p) a p2) "append" ag) [e] [] af) pos) (aes i ra re):=(iY (N5 (KC yh (pv i hN hv br a8) ha gz) (cA he jf bj) hb hf hl bj hp) hs).imp λD σ H hP=>by
 obtain⟨own,o,E,h,hr,L⟩:=hP;unfold aes at hr;cases es:slot o i with
 |l2 tss =>
  rw[es]at hr;obtain⟨l,bs,e1,e3,nd,e4,ln,r⟩:=h.l2 es;refine⟨_,e1,tQ.mk h hr λH1 v x q E1 r1=>?_⟩
  revert r1 q
  generalize frz x=t;intro q r1;cases t<;>try exact q.elim
  cases r1;obtain⟨n,ts,en,et,sz,q⟩:=q;obtain⟨c,ec,ei⟩:=ix3 (xs:=bs) ln en et;obtain⟨xs,eq,rx⟩:=r n c ts ec et;refine⟨l,bs.map V.ref,_,.ref c,rfl,rfl,.of (E1 _ _ e4),Vg ei,c,xs,rfl,E1 _ _ eq,tQ.mk (h.same E1) q λH2 w y q E2 r2=>?_⟩;have b5:=E1.trans E2;refine⟨w,xs,rfl,b5 _ _ eq,by rw[rx.len];exact sz,?_⟩;obtain⟨h',S⟩:=(h.same b5).chg2 es e1 e3 nd (b5 _ _ e4) ln (λi b ts a c=>let⟨xs,p,q⟩:=r i b ts a c;⟨xs,b5 _ _ p,q.same (bN b5)⟩) ec ((rx.same (bN b5)).app (.cons r2 .nil));exact L.nx own _ σ _ q ((bN b5).trans S) h'
 |_=>rw[es]at hr;exact hr.elim
def ael(i:Nat)(c a b:RE):RS:=λE o=>match slot o i with
 |.l2 tss=>c o λy=>a o λx=>(match frz x with|.int j=>∃n ts,ixN tss.length j=some n/\tss[n]?=some ts/\b o λz=>(match frz z with|.int m=>∃k,ixN ts.length m=some k/\E.nx (o.set i (.l2 (tss.set n (ts.set k (frz y)))))|_=>False)|_=>False)
 |_=>False
def ac1(i:Nat){x:Str}{ax p2:Pos}(he:QE X e re)(ha:QE X a ra)(hk:QE X b rb)(hN:X.N[i]?=some x:=by rfl)(hv:pP X.env.scope x=true:=by rfl)(br:zk x:=by decide)(a8:zw x:=by decide)(gz:uh a:=by exact λ_ _=>rfl)
 (hq:∀v,assign (.Subscript (.Subscript (.Name x p) a p2) b ax) X.env v=(do
   let ov <- holding [v] (eval (.Subscript (.Name x p) a p2) X.env)
   let iv <- holding [v,ov] (eval b X.env)
   standAt ax
   holding [v,ov,iv] (setItem ov iv v)
   release [v,ov,iv] []):=by intro _;rfl)
 (hs:swapsWithSole [.Subscript (.Subscript (.Name x p) a p2) b ax] e pos.line X.env=pure false:=by rfl)(hw:swappedStores [.Subscript (.Subscript (.Name x p) a p2) b ax] e X.env=pure none:=by rfl)
 (h1:(assignEach [.Subscript (.Subscript (.Name x p) a p2) b ax] X.env).map (·.2)=[assign (.Subscript (.Subscript (.Name x p) a p2) b ax) X.env]:=by rfl):QS X (.Assign [.Subscript (.Subscript (.Name x p) a p2) b ax] e pos) (ael i re ra rb):=(Tj he (abG (KC yh (pv i hN hv br a8) ha gz) hk set_list hq) hs hw h1).imp λD σ H hP=>by
 obtain⟨own,o,E,h,hr,L⟩:=hP;unfold ael at hr;cases es:slot o i with
 |l2 tss =>
  rw[es]at hr;obtain⟨l,bs,e1,e3,nd,e4,ln,r⟩:=h.l2 es;refine tQ.mk h hr λH0 v0 y q E0' r0=>⟨_,e1,tQ.mk (h.same E0') q λH1 v x q E1 r1=>?_⟩
  revert r1 q
  generalize frz x=t;intro q r1;cases t<;>try exact q.elim
  cases r1;obtain⟨n,ts,en,et,q⟩:=q;obtain⟨c,ec,ei⟩:=ix3 (xs:=bs) ln en et;obtain⟨xs,eq,rx⟩:=r n c ts ec et;have E01:=E0'.trans E1;refine⟨l,bs.map V.ref,_,.ref c,rfl,rfl,.of (E01 _ _ e4),Vg ei,tQ.mk (h.same E01) q λH2 w z q E2 r2=>?_⟩
  revert r2 q
  generalize frz z=t;intro q r2;cases t<;>try exact q.elim
  cases r2;obtain⟨k,ek,q⟩:=q;have b5:=E01.trans E2;refine⟨c,xs,_,k,rfl,rfl,b5 _ _ eq,by rw[rx.len];exact ek,?_⟩;obtain⟨h',S⟩:=(h.same b5).chg2 es e1 e3 nd (b5 _ _ e4) ln (λi b ts a c=>let⟨xs,p,q⟩:=r i b ts a c;⟨xs,b5 _ _ p,q.same (bN b5)⟩) ec (bV.set (r0.same (bN (E1.trans E2))) k (rx.same (bN b5)));exact L.nx own _ σ _ q ((bN b5).trans S) h'
 |_=>rw[es]at hr;exact hr.elim
def amX:zi
 |.str i,.str j,q=>q (.fz (.bl (!decide (j.cps.toList<i.cps.toList))))
 |_,_,_=>False
def aaP:GO X (compareOp .LtE) amX:=ahe.imp λx y H Q hP=>by
 obtain⟨S,t,u,R,_,hx,hy,hg,k⟩:=hP;cases hx<;>try exact hg.elim
 cases hy<;>try exact hg.elim
 exact⟨_,_,rfl,rfl,k H _ _ hg (.refl _) (NR.fz (.bl _))⟩
def adh:GC X (.builtin "len") (g1 am2):=.one Mr λS t x H Q R rx hg k=>by
 cases t<;>try exact hg.elim
 cases rx;exact⟨_,rfl,hg.1,k H _ _ hg.2 (.refl _) (NR.fz (.int _))⟩
def amr(a:RE):RI:=λo q=>a o λx=>match frz x with|.str s=>q (s.cps.toList.map λc=>.str ⟨#[c]⟩)|_=>False
def agZ{tg:Expr}(he:QE X e re):QI X tg e (amr re):=(af3 he).imp λσ H Q ⟨own,o,R,h,hr,k⟩=>tQ.mk h hr λH1 v x q E1 r1=>by
 revert r1 q
 generalize frz x=t;intro q r1;cases t<;>try exact q.elim
 cases r1;refine⟨_,rfl,k H1 _ _ q E1 λS H2 i _ SF=>⟨λhi=>show i=_ by simpa using hi,λt ht=>?_⟩⟩;rw[aq]at ht;cases z:(‹Str›.cps.toList)[i]? with
 |none=>rw[z]at ht;cases ht
 |some c =>
  rw[z]at ht;cases ht;refine⟨show i<_ by simpa using(ao.mp z).1,?_⟩;rintro x H3 ⟨rfl,c',e',rfl⟩;rw[<- Array.getElem?_toList,z]at e';cases e';exact⟨.refl _,.str _⟩
end
abbrev HG:=zn
section
variable{α β:Type}{g:HG}{b:RS}{E:DT}{o:List OT}
theorem Wy(h:α->T)(l:List α)(J:List α->List OT->Prop)(st:∀as a bs o,l=as++a::bs->J as o->g (h a) o λo'=>b { E with nx:=J (as++[a]),ct:=J (as++[a]),bk:=E.nx } o')(aS:∀o,J l o->E.nx o):∀(bs as:List α)(o:List OT),l=as++bs->J as o->zc g b E (bs.map h) o
 |[],as,o,e,j=>aS o (by rw[List.append_nil]at e;rw[e];exact j)
 |a::bs,as,o,e,j=>⟨J (as++[a]),λo k=>Wy h l J st aS bs (as++[a]) o (by rw[e];simp) k,st as a bs o e j⟩
def jc(h:α->T)(l:List α)(J:List α->List OT->Prop)(j:J [] o)(st:∀as a bs o,l=as++a::bs->J as o->g (h a) o λo'=>b { E with nx:=J (as++[a]),ct:=J (as++[a]),bk:=E.nx } o')(aS:∀o,J l o->E.nx o):zc g b E (l.map h) o:=Wy h l J st aS l [] o rfl j
theorem Bk(J:Nat->List OT->Prop):∀(xs:List T)(k:Nat){o:List OT},J k o->(∀i t o,xs[i]?=some t->J (k+i) o->g t o λo'=>b { E with nx:=J (k+i+1),ct:=J (k+i+1),bk:=E.nx } o')->(∀o,J (k+xs.length) o->E.nx o)->zc g b E xs o
 |[],_,o,j,_,aS=>aS o j
 |t::ts,k,o,j,st,aS=>⟨J (k+1),λo z=>Bk J ts (k+1) z (λi t o e z=>by
   have:=st (i+1) t o (by simpa using e) (by rw[show k+(i+1)=k+1+i by lia];exact z);rw[show k+(i+1)+1=k+1+i+1 by lia]at this;exact this) (λo z=>aS o (by rw[List.length_cons,show k+(ts.length+1)=k+1+ts.length by lia];exact z)),st 0 t o rfl j⟩
def oR{n:Nat}(J:Nat->List OT->Prop)(j:J 0 o)(st:∀k o,k<n->J k o->g (.int (k:Nat)) o λo'=>b { E with nx:=J (k+1),ct:=J (k+1),bk:=E.nx } o')(aS:∀o,J n o->E.nx o):zc g b E (rng 0 n) o:=by
 refine Bk J (rng 0 n) 0 j (λi t o e z=>?_) λo z=>aS o (by rw[rng,ak,WJ,Q2]at z;exact z);unfold rng at e;rw[aq]at e;by_cases hi:i<n
 .rw[VQ hi]at e;cases e;rw[Q2]at z ⊢;have:=st i o hi z;show g (.int (0+((i:Nat):Int))) o _;rw[show(0:Int)+((i:Nat):Int)=((i:Nat):Int)by exact Q3 _];exact this
 .rw[aM (by simpa using hi)]at e;cases e
def yF(h:α->T)(l:List α)(J:Nat->List OT->Prop)(j:J 0 o)(st:∀k a o,l[k]?=some a->J k o->g (.tup [.int (k:Nat),h a]) o λo'=>b { E with nx:=J (k+1),ct:=J (k+1),bk:=E.nx } o')(aS:∀o,J l.length o->E.nx o):zc g b E (yW (l.map h)) o:=by
 refine Bk J (yW (l.map h)) 0 j (λi t o e z=>?_) λo z=>aS o (by rw[yW,ak,Zxq,ak,Q2]at z;exact z);unfold yW at e;rw[aq]at e;by_cases hi:i<l.length
 .rw[aj (by simpa using hi),List.getElem_zipIdx,UZ]at e;cases e;rw[Q2]at z ⊢;have:=st i _ o (aj hi) z;exact this
 .rw[aM (by simpa using hi)]at e;cases e
variable{c:RT}{e:RE}{q:List T->Prop}
theorem comp_map(h:α->T)(f:α->T):∀(l:List α){q:List T->Prop},(∀a∈l,∀(N:T->Prop)(M:Prop),N (f a)->g (h a) o λo'=>c o' λb=>sw b (e o' λy=>N (frz y)) M)->q (l.map f)->jK g c e o (l.map h) q
 |[],_,_,k=>k
 |a::l,q,st,k=>⟨λy=>y=f a,False,λy z=>comp_map h f l (λa ha=>st a (aJ _ ha)) (z ▸ k),False.elim,st a (aO ..) (λy=>y=f a) False rfl⟩
theorem qd(h:α->T)(p:α->Bool)(f:α->T):∀(l:List α){q:List T->Prop},(∀a∈l,∀(N:T->Prop)(M:Prop),(p a=true->N (f a))->(p a=false->M)->g (h a) o λo'=>c o' λb=>sw b (e o' λy=>N (frz y)) M)->q ((l.filter p).map f)->jK g c e o (l.map h) q
 |[],_,_,k=>k
 |a::l,q,st,k=>⟨λy=>y=f a/\p a=true,p a=false,λy z=>qd h p f l (λa ha=>st a (aJ _ ha)) (by rw[List.filter_cons_of_pos z.2]at k;exact z.1 ▸ k),λz=>qd h p f l (λa ha=>st a (aJ _ ha)) (by rw[Zwz (by rw[z];decide)]at k;exact k),st a (aO ..) (λy=>y=f a/\p a=true) (p a=false) (λz=>⟨rfl,z⟩) id⟩
inductive agl(R:α->T->Prop):List α->List T->Prop
 |nil:agl R [] []
 |cons {a:α}{t:T}{l:List α}{ts:List T} : R a t->agl R l ts->agl R (a::l) (t::ts)
def Gf(f:Nat->T)(n:Nat)(st:∀k,k<n->∀(N:T->Prop)(M:Prop),N (f k)->g (.int (k:Nat)) o λo'=>c o' λb=>sw b (e o' λy=>N (frz y)) M)(k:q ((List.range n).map f)):jK g c e o (rng 0 n) q:=by
 refine comp_map (λk:Nat=>.int (0+k)) f (List.range n) (λa ha N M hN=>?_) k;have:=st a (List.mem_range.mp ha) N M hN;show g (.int (0+((a:Nat):Int))) o _;rw[show(0:Int)+((a:Nat):Int)=((a:Nat):Int)by exact Q3 _];exact this
def zip_map{α β:Type}(h:α->T)(k:β->T)(xs:List α)(ys:List β):Jx (xs.map h) (ys.map k)=(xs.zip ys).map λp=>.tup [h p.1,k p.2]:=by
 unfold Jx;rw[List.zip_map,WS]
 rfl
def abx{α:Type}(h:α->T)(xs:List α):yW (xs.map h)=xs.zipIdx.map λp=>.tup [.int (p.2:Nat),h p.1]:=by
 unfold yW;rw[List.zipIdx_map,WS]
 rfl
end
def Qc(ks:List Key)(j:Key):Bool:=ks.any λk=>decide (k=j)
def kpK(ks:List Key)(j:Key):List Key:=if Qc ks j=true then ks else ks++[j]
def kpT{α:Type}(ks:List Key)(ts:List α)(j:Key)(t:α):List α:=if Qc ks j=true then ks.zipWith (λk x=>if k=j then t else x) ts else ts++[t]
def abw{j:Key}{v:V}{ks:List Key}{xs:Ε}(l:ks.length=xs.length):putK (ks.zip xs) j v=(kpK ks j).zip (kpT ks xs j v)/\(kpK ks j).length=(kpT ks xs j v).length:=by
 have any:∀{ks:List Key}{xs:Ε},ks.length=xs.length->((ks.zip xs).any λkv=>decide (kv.1=j))=Qc ks j:=λ{ks}=>by
  induction ks with
  |nil=>intro xs _;rfl
  |cons k ks ih =>
   intro xs l;cases xs with
   |nil=>cases l
   |cons x xs=>rw[List.zip_cons_cons,List.any_cons,ih (Nat.succ.inj l)];rfl
 unfold putK kpK kpT;rw[any l];by_cases h:Qc ks j=true
 .rw[ZY h,ZY h,ZY h];refine⟨?_,by rw[TZ,l,Up]⟩
  clear any h
  induction ks generalizing xs with
  |nil=>rfl
  |cons k ks ih =>
   cases xs with
   |nil=>cases l
   |cons x xs =>
    rw[List.zip_cons_cons,List.map_cons,ih (Nat.succ.inj l),List.zipWith_cons_cons,List.zip_cons_cons];by_cases h:k=j
    .rw[ZY h,ZY h]
    .rw[ZZ h,ZZ h]
 .rw[ZZ h,ZZ h,ZZ h];exact⟨by rw[List.zip_append l];rfl,by simp[l]⟩
def bV.kp{K:Frag}{F:Hp}{j:Key}{v:V}{t:T}(r:Rep K F v t){ks:List Key}{xs:Ε}{ts:List T}(h:bV K F xs ts):bV K F (kpT ks xs j v) (kpT ks ts j t):=by
 unfold kpT;by_cases z:Qc ks j=true
 .rw[ZY z,ZY z]
  clear z
  induction ks generalizing xs ts with
  |nil=>exact .nil
  |cons k ks ih =>
   cases h with
   |nil=>exact .nil
   |cons a b =>
    rw[List.zipWith_cons_cons,List.zipWith_cons_cons];refine .cons ?_ (ih b);by_cases y:k=j
    .rw[ZY y,ZY y];exact r
    .rw[ZZ y,ZZ y];exact a
 .rw[ZZ z,ZZ z];exact h.app (.cons r .nil)
section
variable{X:Cx}{a b c e:Expr}{ra rb rc re:RE}{pos p:Pos}
def aeS(i:Nat)(a b:RE):RS:=λE o=>match slot o i with|.d1 ks ts=>a o λy=>b o λk=>∃j,Xb (frz k)=some j/\ks.length<sizeLine/\E.nx (o.set i (.d1 (kpK ks j) (kpT ks ts j (frz y))))|_=>False
def SR.d1{K:Frag}{own:zC}{H:Hp}{σ:L2.St}{o:List OT}(h:SR K own H σ o){i:Nat}{ks:List Key}{ts:List T}(e:slot o i=.d1 ks ts):∃l xs,σ[i]?=some (some (.ref l))/\own i=[l]/\H l=some (.dK (ks.zip xs))/\ks.length=xs.length/\bV K (hd (Ow own) H) xs ts:=by
 obtain⟨u,e1,l,xs,e2,e3,e4,r⟩:=h.val e (by intro z;cases z);cases e2;exact⟨l,xs,e1,e3,e4,r⟩
def Lj(i:Nat){x:Str}{ax:Pos}(hu:X.A.units+1<cLine)(he:QE X e re)(hb:QE X b rb)(hN:X.N[i]?=some x:=by rfl)(hv:pP X.env.scope x=true:=by rfl)(br:zk x:=by decide)(a8:zw x:=by decide)
 (hs:swapsWith e (some (.Subscript (.Name x p) b ax)) pos.line X.env=pure false:=by rfl):QS X (.Assign [.Subscript (.Name x p) b ax] e pos) (aeS i re rb):=(adx hu (pv i hN hv br a8) hb he hs).imp λD σ H hP=>by
 obtain⟨own,o,E,h,hr,L⟩:=hP;unfold aeS at hr;cases es:slot o i with
 |d1 ks ts =>
  rw[es]at hr;obtain⟨l,xs,e1,e3,e4,ln,r⟩:=h.d1 es;refine tQ.mk h hr λH1 v y q E1 r1=>⟨_,e1,tQ.mk (h.same E1) q λH2 w z q E2 r2=>?_⟩;obtain⟨j,ek,sz,q⟩:=q;have b5:=E1.trans E2;cases Oa r2 ek;obtain⟨pk,pl⟩:=abw (j:=j) (v:=v) ln;have lz:(ks.zip xs).length<sizeLine:=by rw[VV,<- ln,Up];exact sz
  refine⟨l,_,rfl,.inl ⟨_,j,b5 _ _ e4,rfl,lz,rfl⟩,?_⟩;rw[pk];obtain⟨h',S⟩:=(h.same b5).chg (ig es (by intro z;cases z)) (y:=.d1 (kpK ks j) (kpT ks ts j (frz y))) (H':=upd H2 l (.dK ((kpK ks j).zip (kpT ks xs j v)))) (λb u hb e=>(bO λz=>hb (by rw[e3,z];simp)).trans e) (by
   rw[e1,vN ⟨i,by rw[e3];simp⟩];exact⟨l,_,rfl,e3,bY,pl,bV.kp (r1.same (bN E2)) (r.same (bN b5))⟩)
  exact L.nx own _ σ _ q ((bN b5).trans S) h'
 |_=>rw[es]at hr;exact hr.elim
def aeI(i:Nat)(a b:RE):RE:=λo q=>match slot o i with|.d1 ks ts=>a o λy=>b o λz=>∃j,Xb (frz y)=some j/\q (.fz ((pC ks ts j).getD (frz z)))|_=>False
def adv(i:Nat){x:Str}{ag af:Pos}(hu:X.A.units+1<cLine)(ha:QE X a ra)(hb:QE X b rb)(m:M2 X (.Name x p) "get" ag a b af:=by first|exact⟨rfl,rfl,rfl,rfl⟩|constructor<;>rfl)(hN:X.N[i]?=some x:=by rfl)(hv:pP X.env.scope x=true:=by rfl)(br:zk x:=by decide)(a8:zw x:=by decide) :
  QE X (.Call (.Attribute (.Name x p) "get" ag) [a,b] [] af) (aeI i ra rb):=(abS hu (pv i hN hv br a8) ha hb m).imp λσ H Q hP=>by
 obtain⟨own,o,R,h,hr,k⟩:=hP;unfold aeI at hr;cases es:slot o i with
 |d1 ks ts =>
  rw[es]at hr;obtain⟨l,xs,e1,e3,e4,ln,r⟩:=h.d1 es;refine⟨_,e1,l,rfl,.inl ⟨_,.inl e4⟩,tQ.mk h hr λH1 v y q E1 r1=>tQ.mk (h.same E1) q λH2 w z q E2 r2=>?_⟩;obtain⟨j,ek,q⟩:=q;have b5:=E1.trans E2;cases Oa r1 ek;refine⟨_,Dj.k (b5 _ _ e4),?_⟩;have r:=r.same (bN b5);cases z1:pC ks ts j with
  |none =>
   rw[z1]at q;rw[(Ds r).2 z1];exact k H2 _ _ q b5 (NR.fz r2)
  |some t =>
   rw[z1]at q;obtain⟨u,e5,r5⟩:=(Ds r).1 t z1;rw[e5];exact k H2 _ _ q b5 (NR.fz r5)
 |_=>rw[es]at hr;exact hr.elim
def kT:Key->T
 |.inl i=>.int i
 |.inr s=>.str s
def aeo(i n:Nat)(g:zn)(c:RT)(e:RE):RS:=λE o=>match slot o i with
 |.d1 ks ts=>ks.length<=sizeLine/\jK g c e (List.replicate n .und++o.set i (.fz (.dct ks ts))) (ks.map kT) λus=>E.rt (.l1 us)
 |_=>False
def acV{K:Frag}{a:Addr}{ob:Obj}{ks:List Key}{xs:Ε}{F:Hp}(l:ks.length=xs.length)(e:F a=some (.frz ob (.dK (ks.zip xs)))):Wlk K (Itk a ob (ks.zip xs)) F (ks.map kT):=λS H i _ SF=>by
 have eH:=(cI (SF _ _ e)).2;have lz:(ks.zip xs).length=ks.length:=by rw[VV,<- l,Up]
 refine⟨λhi=>⟨eH,by rw[lz];simpa using hi⟩,λt ht=>?_⟩;rw[aq]at ht;cases z:ks[i]? with
 |none=>rw[z]at ht;cases ht
 |some k =>
  rw[z]at ht;cases ht;have hi:=(ao.mp z).1;refine⟨⟨eH,by rw[lz];exact hi⟩,?_⟩;rintro x H' ⟨rfl,k',y,e1,rfl⟩;rw[aj (by rw[lz];exact hi),List.getElem_zip]at e1;rw[aj hi]at z;cases z;cases e1;refine⟨.refl _,?_⟩;cases ks[i]with
  |inl j=>exact .int _
  |inr s=>exact .str _
def acq{tg bg:Expr}{aI:List Expr}{g:zn}{rc:RT}{scope:Scope}{x:Str}{af:Pos}(i:Nat)(sc:Scope)(N N' xs:Θ)(hg:∀{C s₀ H₀ ex pn},QG (X.compG N' scope xs C s₀ H₀ ex pn) xs.length tg g)(ht:∀{C s₀ H₀ ex pn},QTs (X.compG N' scope xs C s₀ H₀ ex pn) aI rc)(he:∀{C s₀ H₀ ex pn},QE (X.compG N' scope xs C s₀ H₀ ex pn) bg re)
 (hN:X.N[i]?=some x:=by rfl)(hv:pP X.env.scope x=true:=by rfl)(br:zk x:=by decide)(a8:zw x:=by decide)
 (cS:X.env.scope=sc:=by rfl)(c8:X.N=N:=by rfl)(hc:X.calm=true:=by rfl)(hk:scope.kind=.function:=by rfl)(h:CK sc scope N N' xs:=by decide +kernel)(hs:∀z,foldedSetIterable (.Name x p) X.env z=pure z:=by intro _;rfl) :
  QS X (.Return (some (.ListComp bg [⟨tg,.Name x p,aI,0⟩] scope af)) pos) (aeo i xs.length g rc re):=(zO (Z1 (gt:=tQG X.K xs.length g) (tc:=tQT X.K rc) (te:=tQ X.K re) sc N N' xs (adg (tg:=tg) (pv i hN hv br a8)) hg ht he cS c8 hc hk h hs)).imp λD σ H hP=>by
 obtain⟨own,o,E,h,hr,L⟩:=hP;unfold aeo at hr;cases es:slot o i with
 |d1 ks ts =>
  rw[es]at hr;obtain⟨l,ys,e1,e3,e4,ln,r⟩:=h.d1 es;refine⟨_,e1,l,_,rfl,e4,λob DD nD=>?_⟩;have eo:∀b,Ow (own1 own i []) b->Ow own b/\b≠l:=λb hP=>by
   obtain⟨j,z⟩:=hP;by_cases y:j=i
   .rw[y,iR]at z;cases z
   .rw[dX y]at z;exact⟨⟨j,z⟩,λw=>y (h.dis j i b z (by rw[e3,w];simp))⟩
  have nl:¬Ow (own1 own i []) l:=λz=>(eo l z).2 rfl;have ol:Ow own l:=⟨i,by rw[e3];simp⟩;have S1:Same (hd (Ow own) H) (hd (Ow (own1 own i [])) (upd H l (.frz ob (.dK (ks.zip ys))))):=λb u e=>by
   obtain⟨n,e⟩:=cI e;rw[cL λz=>n (eo b z).1,bO λ(z:b=l)=>n (z.symm ▸ ol)];exact e
  have h1:SR X.K (own1 own i []) (upd H l (.frz ob (.dK (ks.zip ys)))) σ (o.set i (.fz (.dct ks ts))):=by
   have hi:i<o.length:=(ao.mp (ig es (by intro z;cases z))).1;refine⟨by rw[WH,h.len],λj y e'=>?_,λj hj a ha=>?_,λj k a z1 z2=>?_⟩
   .by_cases z:j=i
    .subst z;rw[VT hi]at e';cases e';rw[iR,e1];exact⟨rfl,_,rfl,.dct (.inr ⟨ob,by rw[cL nl];exact bY⟩) ln (r.same S1)⟩
    .rw[VY (Ne.symm z)]at e';rw[dX z];exact((h.sl j y e').same S1 (.refl _)).off λb hb u e=>(bO λw=>z (h.dis j i b hb (by rw[e3,w];simp))).trans e
   .rw[WH]at hj;rw[dX (by lia)]at ha;obtain⟨xs,e⟩:=h.out j hj a ha;exact⟨xs,(bO λw=>by have:=h.dis j i a ha (by rw[e3,w];simp);lia).trans e⟩
   .by_cases z:j=i
    .rw[z,iR]at z1;cases z1
    by_cases y:k=i
    .rw[y,iR]at z2;cases z2
    .rw[dX z]at z1;rw[dX y]at z2;exact h.dis j k a z1 z2
  have L1:=L.step S1;refine Ri h1 (acV ln (by rw[cL nl];exact bY)) (by simpa using hr.1) hr.2 nD λH' v y rx E n=>?_;obtain⟨B,nb,s⟩:=n;exact L1.rt _ H' v y B rx (gW (λb z=>z.imp id (nb b)) E) s λa ha=>.inr ha
 |_=>rw[es]at hr;exact hr.elim
end
def agO(K:Frag)(as:Φ)(H:Hp)(tss:List (List T)):Prop:=tss.length=as.length/\∀(j:Nat)a ts,as[j]?=some a->tss[j]?=some ts->∃xs,H a=some (.lst xs)/\bV K (hd (· ∈ as) H) xs ts
abbrev SO:=List (List T)->List T->(List (List T)->Prop)->Prop
def spO(K:Frag)(S:SO):Sp:=λvs H Q _=>∃(as:Φ)(tss:List (List T))(us:Ε)(ts:List T)(R:List (List T)->Prop),vs=as.map V.ref++us/\as.Nodup/\agO K as H tss/\bV K (hd (· ∈ as) H) us ts/\S tss ts R /\
 ∀H' bi,R bi->Same (hd (· ∈ as) H) (hd (· ∈ as) H')->agO K as H' bi->Q .non H'
def ownL(as:Φ)(i:Nat):Φ:=match as[i]? with|some a=>[a]|none=>[]
def Gn{as:Φ}{i:Nat}{b:Addr}(h:b∈ownL as i):as[i]?=some b:=by
 unfold ownL at h;cases e:as[i]? with
 |none=>rw[e]at h;cases h
 |some a=>rw[e]at h;cases YR.mp h;rfl
def V2{as:Φ}{i:Nat}{b:Addr}(h:as[i]?=some b):ownL as i=[b]:=by unfold ownL;rw[h]
def Ow.ownL(as:Φ):Ow (L2.ownL as)=(· ∈ as):=funext λb=>propext ⟨λ⟨i,z⟩=>aC (Gn z),λz=>by
 obtain⟨i,e⟩:=aV z;exact⟨i,by rw[V2 e];simp⟩⟩
def startO(n:Nat)(as:Φ)(tss:List (List T))(ts:List T):List OT:=List.zipWith OT.la as tss++start' (n-as.length) ts
section
variable{P:Program}{w:World}{K:Frag}{mg:Str->Ψ}{base:Heap}
def SR.startO{H:Hp}{as:Φ}{tss:List (List T)}{us:Ε}{ts:List T}(nd:as.Nodup)(h:agO K as H tss)(r:bV K (hd (· ∈ as) H) us ts)(N:Θ)(hN:as.length+us.length<=N.length):SR K (ownL as) H (L2.start N (as.map V.ref++us)) (L2.startO N.length as tss ts):=by
 have zl:(List.zipWith OT.la as tss).length=as.length:=by rw[TZ,h.1,Up]
 refine⟨?_,λi x e=>?_,λi hi b hb=>?_,λi j b e1 e2=>Bc nd (Gn e1) (Gn e2)⟩
 .unfold L2.startO start' L2.start;have:=r.len;simp only[aA,ak,aN,zl];lia
 .rw[Ow.ownL];unfold L2.startO at e;unfold L2.start;by_cases hi:i<as.length
  .rw[aF (by rw[zl];exact hi),Zyt]at e;have ea:=aj hi;have et:=aj (l:=tss) (by rw[h.1];exact hi);rw[ea,et]at e;cases e;rw[V2 ea,aF (by simp;exact WV _ hi),aq,aF (by simpa using hi),aq,ea];obtain⟨xs,q,rx⟩:=h.2 i _ _ ea et;exact⟨xs,rfl,rfl,q,rx⟩
  .have on:ownL as i=[]:=by unfold ownL;rw[aM (Nat.not_lt.mp hi)]
   rw[on];rw[aD (by rw[zl];exact Nat.not_lt.mp hi),zl]at e;unfold start' at e;by_cases hj:i-as.length<ts.length
   .rw[aF (by simpa using hj),aq,aj hj]at e;cases e;obtain⟨v,e1,r1⟩:=r.at_ (aj hj);have:=r.len;rw[aF (by simp;lia),aq,aD (by simpa using Nat.not_lt.mp hi),ak,e1];exact⟨rfl,v,rfl,r1⟩
   .rw[aD (by simpa using hj),ak,XG]at e;split at e
    .cases e;rfl
    .cases e
 .unfold L2.startO at hi;rw[aA,zl]at hi;have:=(ao.mp (Gn hb)).1;lia
theorem slot_of:∀{o:List OT}{i:Nat}{x:OT},o[i]?=some x->slot o i=x
 |[],_,_,e=>by cases e
 |_::_,0,_,e=>by cases e;rfl
 |_::l,i+1,x,e=>slot_of (o:=l) (by simpa using e)
def Fun.okO{x ah:Str}{st:Stmt}{f:Addr}{fd:FuncData}{N ps:Θ}{k:Nat}{S:SO}(F:Fun K x ah st f fd)(sc:bK N ps (bF st))(len:∀tss ts R,S tss ts R->tss.length+ts.length=ps.length)(hn:ps.length<=N.length)
 (be:∀(ai:Value)(A:Around)(outer:List Env)(s:Shared)(H:Hp)(E:XK),dh k (A.deeper (envOfC ah (bF st) s.heap.objs.size f ai))->N.Nodup ->
   ∃r,QSs (zX CX0 P w K mg base N ah (bF st) f ai A outer s H E).nox (eU st) r/\∀as tss ts R,tss.length=as.length->S tss ts R->r { nx:=λo=>∃bi,(∀j,slot o j=slot (List.zipWith OT.la as bi) j\/as.length<=j)/\bi.length=as.length/\R bi,rt:=λ_=>False } (startO N.length as tss ts)):dI P w K mg base CX0 (k+1) f fd ps (spO K S):=by
 refine F.ok sc (λvs H Q E h=>?_) λai A outer s H vs Q E hr h=>?_
 .obtain⟨as,tss,us,ts,R,rfl,_,l,r,hS,_⟩:=h;rw[aA,ak,<- l.1,r.len];exact len _ _ _ hS
 .obtain⟨as,tss,us,ts,R,rfl,nd,l,r,hS,q⟩:=h;obtain⟨rd,h1,h2⟩:=be ai A outer s H E hr sc.nd;have s0:=SR.startO nd l r N (by rw[<- l.1,r.len,len _ _ _ hS];exact hn);refine⟨_,h1,_,_,_,s0,h2 as tss ts R l.1 hS,⟨λown H' σ o rx E h=>?_,λ_ _ _ _ _ z=>z.elim,λ_ _ _ _ z=>z.elim,λ_ _ _ _ z=>z.elim,λ_ _ _ _ _ _ z=>z.elim⟩⟩;obtain⟨bi,es,tl,rx⟩:=rx;rw[Ow.ownL]at E;have cK:∀(j:Nat)a t,as[j]?=some a->bi[j]?=some t->slot o j=.la a t:=λj a t e1 e2=>by
   rcases es j with z|z
   .rw[z];exact slot_of (by rw[Zyt,e1,e2])
   .exact absurd (ao.mp e1).1 (Nat.not_lt.mpr z)
  have sub:Same (hd (Ow own) H') (hd (· ∈ as) H'):=gW (λb z=>.inl (by
   obtain⟨j,e⟩:=aV z;have lj:j<bi.length:=tl ▸ (ao.mp e).1;obtain⟨u,_,xs,_,e3,_⟩:=h.val (cK j b _ e (aj lj)) (by intro z;cases z);exact⟨j,by rw[e3];simp⟩)) λ_ _ z=>z
  refine q H' bi rx (E.trans sub) ⟨tl,λj a t e1 e2=>?_⟩;obtain⟨u,_,xs,_,_,e4,r4⟩:=h.val (cK j a t e1 e2) (by intro z;cases z);exact⟨xs,e4,r4.same sub⟩
end
section
variable{X:Cx}{es:List Expr}{r:RA}{pos p p1 p2 af:Pos}
def ZX{K:Frag}{own:zC}{H:Hp}{σ:L2.St}{o:List OT}(h:SR K own H σ o){as:Φ}(hs:∀a∈as,∃j,own j=[a]):Hid H (λb=>Ow own b/\b∉as)/\∀H':Hp,hd (· ∈ as) (hd (λb=>Ow own b/\b∉as) H')=hd (Ow own) H':=by
 have in1:∀{b x:Addr}{j:Nat},b∈own j->b∉as->x∈own j->x∉as:=λ{b x j}hb n hx z=>by
  obtain⟨k,ek⟩:=hs x z;have:=h.dis j k x hx (by rw[ek];simp);subst this;rw[ek]at hb hx;cases YR.mp hb;exact n z
 refine⟨⟨λb z=>h.sole z.1,λb C d f ⟨⟨j,z⟩,n⟩ e=>⟨⟨j,(h.mate z).1 C d f e⟩,in1 z n ((h.mate z).1 C d f e)⟩,λb x ⟨⟨j,z⟩,n⟩ e=>⟨⟨j,(h.mate z).2 x e⟩,in1 z n ((h.mate z).2 x e)⟩⟩,λH'=>funext λb=>?_⟩;by_cases z:b∈as
 .obtain⟨k,ek⟩:=hs b z;rw[n8 z,n8 ⟨k,by rw[ek];simp⟩]
 .rw[cL z];by_cases y:Ow own b
  .rw[n8 (⟨y,z⟩ : Ow own b/\b∉as),n8 y]
  .rw[cL (λw=>y w.1),cL y]
def al4(i:Nat)(S:SO)(r:RA):RS:=λE o=>onL (slot o i) λts c=>r o λas=>S [ts] as λtss=>match tss with|[t]=>E.nx (o.set i (c t))|_=>False
def agK(i:Nat){x y:Str}{k:Nat}{ps:Θ}{S:SO}(G:OkF X.prog X.w X.K X.mg X.base k x ps (spO X.K S))(ha:QA X es r)(hr:dh k X.A:=by exact dh.mono (by assumption) (by decide))(hg:Gl X x:=by rfl)(hN:X.N[i]?=some y:=by rfl)(hv:pP X.env.scope y=true:=by rfl)(br:zk y:=by decide)(a8:zw y:=by decide)(bz:zk x:=by decide)
 (he:starEach (.Name y p1::es) X.env=(false,eval (.Name y p1) X.env)::starEach es X.env:=by rfl)(aE:zg X af es:=by rfl)(hs:swapsWith (.Call (.Name x p) (.Name y p1::es) [] af) none pos.line X.env=pure false:=by rfl):QS X (.Expr (.Call (.Name x p) (.Name y p1::es) [] af) pos) (al4 i S r):=by
 obtain⟨f,fd,F,b,hm,kp⟩:=G;refine(iY (Cp (sp:=spH (spO X.K S)) ⟨f,fd,F.hid,b,hm,kp⟩ hr hg (cA (pv i hN hv br a8) ha he) bz he aE) hs).imp λD σ H hP=>?_;obtain⟨own,o,E,h,hr,L⟩:=hP;obtain⟨ts,c,hr,es⟩:=Dl hr;obtain⟨l,xs,e1,e2,e3,r0,sl⟩:=h.l1 es;refine⟨_,e1,tQA.mk h hr λH1 vs as q _ E1 r1=>?_⟩;have h1:=h.same E1;obtain⟨hid,eqF⟩:=ZX h1 (as:=[l]) λa ha=>⟨i,by rw[YR.mp ha];exact e2⟩;have nl:¬(Ow own l/\l∉[l]):=λz=>z.2 (by simp);refine⟨_,hid,[l],[ts],vs,as,_,rfl,by simp,⟨rfl,λj a t ea et=>?_⟩,by rw[eqF];exact r1,q,λG bi rx EE ls bn=>?_⟩
 .cases j with
  |zero=>cases ea;cases et;exact⟨xs,(cL nl).trans (E1 _ _ e3),by rw[eqF];exact r0.same (bN E1)⟩
  |succ j=>cases ea
 .match bi,rx,ls with
  |[t],rx,ls =>
   obtain⟨ys,ey,ry⟩:=ls.2 0 l t rfl rfl;rw[eqF]at EE;have di:∀{b:Addr}{u:HO},G b=some u->mrg (λb=>Ow own b/\b∉[l]) H1 G b=some u:=λ{b u}e=>(lZ λz=>by rw[bn b z]at e;cases e).trans e;obtain⟨x,ex⟩:=Gy es;obtain⟨h',S'⟩:=h1.chg ex (y:=c t) (H':=mrg (λb=>Ow own b/\b∉[l]) H1 G) (λb u hb e=>by
    by_cases z:Ow own b
    .rw[xU ⟨z,λy=>hb (by rw[e2];exact y)⟩];exact e
    .exact di (cI (EE b u ((cL z).trans e))).2) (by
    rw[e1,e2];refine sl _ ys t (di ey) (ry.same λb u e=>?_);obtain⟨n1,e⟩:=cI e;rw[cL λz=>by rw[bn b ⟨z,n1⟩]at e;cases e];exact di e)
   exact L.nx own _ σ _ rx ((bN E1).trans S') h'
def amD(i j:Nat)(S:SO)(r:RA):RS:=λE o=>onL (slot o i) λts c=>onL (slot o j) λus d=>r o λas=>S [ts,us] as λtss=>match tss with|[t,u]=>E.nx ((o.set i (c t)).set j (d u))|_=>False
def Ii(i j:Nat){x y z:Str}{k:Nat}{ps:Θ}{S:SO}(G:OkF X.prog X.w X.K X.mg X.base k x ps (spO X.K S))(hr:dh k X.A)(hg:Gl X x)(ha:QA X es r)(i8:i≠j:=by decide)(hN:X.N[i]?=some y:=by rfl)(hv:pP X.env.scope y=true:=by rfl)(br:zk y:=by decide)(a8:zw y:=by decide)(hN2:X.N[j]?=some z:=by rfl)(ko:pP X.env.scope z=true:=by rfl)(pM:zk z:=by decide)(pV:zw z:=by decide)(bz:zk x:=by decide)
 (he:starEach (.Name y p1::.Name z p2::es) X.env=(false,eval (.Name y p1) X.env)::starEach (.Name z p2::es) X.env:=by rfl)(he2:starEach (.Name z p2::es) X.env=(false,eval (.Name z p2) X.env)::starEach es X.env:=by rfl)(aE:(backTo af (starEach (.Name z p2::es) X.env)).any (·.1)=false:=by rfl)(hs:swapsWith (.Call (.Name x p) (.Name y p1::.Name z p2::es) [] af) none pos.line X.env=pure false:=by rfl):QS X (.Expr (.Call (.Name x p) (.Name y p1::.Name z p2::es) [] af) pos) (amD i j S r):=by
 obtain⟨f,fd,F,b,hm,kp⟩:=G;refine(iY (Cp (sp:=spH (spO X.K S)) ⟨f,fd,F.hid,b,hm,kp⟩ hr hg (cA (pv i hN hv br a8) (cA (pv j hN2 ko pM pV) ha he2) he) bz he aE) hs).imp λD σ H hP=>?_;obtain⟨own,o,E,h,hr,L⟩:=hP;obtain⟨ts,c,hr,es⟩:=Dl hr;obtain⟨us,d,hr,es2⟩:=Dl hr;obtain⟨l,xs,e1,e2,e3,r0,sl⟩:=h.l1 es;obtain⟨m,zs,f1,f2,f3,s0,sl2⟩:=h.l1 es2;have lm:l≠m:=λz=>i8 (h.dis i j l (by rw[e2];simp) (by rw[f2,z];simp));refine⟨_,e1,_,f1,tQA.mk h hr λH1 vs as q _ E1 r1=>?_⟩;have h1:=h.same E1;obtain⟨hid,eqF⟩:=ZX h1 (as:=[l,m]) λa ha=>by
  rcases YU.mp ha with z|z
  .exact⟨i,by rw[z];exact e2⟩
  .exact⟨j,by rw[YR.mp z];exact f2⟩
 have nl:¬(Ow own l/\l∉[l,m]):=λz=>z.2 (by simp);have nm:¬(Ow own m/\m∉[l,m]):=λz=>z.2 (by simp);refine⟨_,hid,[l,m],[ts,us],vs,as,_,rfl,by simp[lm],⟨rfl,λj a t ea et=>?_⟩,by rw[eqF];exact r1,q,λG bi rx EE ls bn=>?_⟩
 .match j,ea,et with
  |0,ea,et=>cases ea;cases et;exact⟨xs,(cL nl).trans (E1 _ _ e3),by rw[eqF];exact r0.same (bN E1)⟩
  |1,ea,et=>cases ea;cases et;exact⟨zs,(cL nm).trans (E1 _ _ f3),by rw[eqF];exact s0.same (bN E1)⟩
  |j+2,ea,_=>cases ea
 .match bi,rx,ls with
  |[t,u],rx,ls =>
   obtain⟨ys,ey,ry⟩:=ls.2 0 l t rfl rfl;obtain⟨ws,ew,mr⟩:=ls.2 1 m u rfl rfl;rw[eqF]at EE;have di:∀{b:Addr}{u:HO},G b=some u->mrg (λb=>Ow own b/\b∉[l,m]) H1 G b=some u:=λ{b u}e=>(lZ λz=>by rw[bn b z]at e;cases e).trans e;generalize hM:mrg (λb=>Ow own b/\b∉[l,m]) H1 G=M at di;have keep:∀b u,b≠l->b≠m->H1 b=some u->M b=some u:=λb u n1 n2 e=>by
    by_cases z:Ow own b
    .rw[<- hM,xU ⟨z,by simp[n1,n2]⟩];exact e
    .exact di (cI (EE b u ((cL z).trans e))).2
   have back:∀(M':Hp),(∀b,b≠m->M' b=M b)->Same (hd (· ∈ [l,m]) G) (hd (Ow own) M'):=λM' hM' b u e=>by
    obtain⟨n1,e⟩:=cI e;rw[cL (λz=>by rw[bn b ⟨z,n1⟩]at e;cases e),hM' b λz=>n1 (by simp[z])];exact di e
   obtain⟨x,ex⟩:=Gy es;obtain⟨x2,ex2⟩:=Gy es2;obtain⟨h2,S2⟩:=h1.chg ex (y:=c t) (H':=upd M m (.lst zs)) (λb u hb e=>by
    by_cases z:b=m
    .rw[z,bY];rw[z,E1 _ _ f3]at e;exact e
    .rw[bO z];exact keep b u (λy=>hb (by rw[e2,y];simp)) z e) (by
    rw[e1,e2];exact sl _ ys t ((bO lm).trans (di ey)) (ry.same (back _ λb n=>bO n)))
   obtain⟨h3,S3⟩:=h2.chg (show(o.set i (c t))[j]?=some x2 by rw[VY i8];exact ex2) (y:=d u) (H':=M) (λb w hb e=>by rw[bO λz=>hb (by rw[f2,z];simp)]at e;exact e) (by
    rw[f1,f2];exact sl2 _ ws u (di ew) (mr.same (back _ λ_ _=>rfl)))
   exact L.nx own _ σ _ rx ((bN E1).trans (S2.trans S3)) h3
end
def HX(g:zn)(c:RT)(e:RE)(o:List OT):List T->(List (List T)->Prop)->Prop
 |[],q=>q []
 |t::ts,q=>∃(N:List T->Prop)(M:Prop),(∀y,N y->HX g c e o ts λus=>q (y::us))/\(M->HX g c e o ts q)/\g t o λo'=>c o' λb=>sw b (e o' λy=>match y with|.l1 us=>N us|_=>False) M
def abf(it:RI)(n:Nat)(g:zn)(c:RT)(e:RE):RE:=λo q=>it o λxs=>xs.length<=sizeLine/\HX g c e (List.replicate n .und++o) xs λus=>q (.l2 us)
def ownL2(n L:Nat)(own:zC)(A:Φ):zC:=λi=>if i<n then[]else if i<n+L then own (i-n)else if i=n+L then A else own (i-n-1)
def Ow.ownL2{n L:Nat}{own:zC}{A:Φ}{b:Addr} : Ow (ownL2 n L own A) b↔Ow own b\/b∈A:=by
 constructor
 .rintro⟨i,z⟩;unfold L2.ownL2 at z;by_cases h1:i<n
  .rw[ZY h1]at z;cases z
  rw[ZZ h1]at z;by_cases h2:i<n+L
  .rw[ZY h2]at z;exact .inl ⟨_,z⟩
  rw[ZZ h2]at z;by_cases h3:i=n+L
  .rw[ZY h3]at z;exact .inr z
  .rw[ZZ h3]at z;exact .inl ⟨_,z⟩
 .rintro(⟨i,z⟩|z)
  .by_cases h:i<L
   .exact⟨n+i,by unfold L2.ownL2;rw[ZZ (UR (X1 _ _)),ZY (Nat.add_lt_add_left h _),show n+i-n=i by exact Tk _ _];exact z⟩
   .exact⟨n+i+1,by unfold L2.ownL2;rw[ZZ (by lia),ZZ (by lia),ZZ (by lia),show n+i+1-n-1=i by lia];exact z⟩
  .exact⟨n+L,by unfold L2.ownL2;rw[ZZ (UR (X1 _ _)),ZZ (X2 _),ZY rfl];exact z⟩
def SR.blockL{K:Frag}{own:zC}{H:Hp}{σ:L2.St}{o:List OT}(h:SR K own H σ o){A:Φ}{H':Hp}(E:Same H H')(nA:∀a∈A,H a=none)(eA:∀a∈A,∃ys,H' a=some (.lst ys))(pre:L2.St):SR K (ownL2 pre.length o.length own A) H' (pre++σ) (List.replicate pre.length .und++o):=by
 have le:Same (hd (Ow own) H) (hd (Ow (ownL2 pre.length o.length own A)) H'):=gW (λb z=>(Ow.ownL2.mp z).imp id (nA b)) E;have f7:∀j,∀a∈A,a∉own j:=λj a ha z=>(h.sole ⟨j,z⟩).ne (nA a ha);refine⟨by simp[h.len],λi x e=>?_,λi hi a ha=>?_,λi j a e1 e2=>?_⟩
 .by_cases h1:i<pre.length
  .rw[aF (by simpa using h1),XG,ZY h1]at e;cases e;show ownL2 _ _ _ _ i=[];unfold ownL2;rw[ZY h1]
  .rw[aD (by simpa using h1),aN]at e;have h2:i-pre.length<o.length:=(ao.mp e).1;rw[aD (Nat.not_lt.mp h1)];have:ownL2 pre.length o.length own A i=own (i-pre.length):=by unfold ownL2;rw[ZZ h1,ZY (by omega)]
   rw[this];exact(h.sl _ x e).same le E
 .rw[aA,aN]at hi;unfold ownL2 at ha;rw[ZZ (by lia),ZZ (UR hi)]at ha;by_cases h3:i=pre.length+o.length
  .rw[ZY h3]at ha;exact eA a ha
  .rw[ZZ h3]at ha;obtain⟨xs,e⟩:=h.out _ (by lia) a ha;exact⟨xs,E _ _ e⟩
 .unfold ownL2 at e1 e2;by_cases a1:i<pre.length
  .rw[ZY a1]at e1;cases e1
  by_cases b1:j<pre.length
  .rw[ZY b1]at e2;cases e2
  rw[ZZ a1]at e1;rw[ZZ b1]at e2;by_cases a2:i<pre.length+o.length<;>by_cases b2:j<pre.length+o.length
  .rw[ZY a2]at e1;rw[ZY b2]at e2;have:=h.dis _ _ a e1 e2;omega
  .rw[ZY a2]at e1;rw[ZZ b2]at e2;by_cases b3:j=pre.length+o.length
   .rw[ZY b3]at e2;exact absurd e1 (f7 _ a e2)
   .rw[ZZ b3]at e2;have:=h.dis _ _ a e1 e2;omega
  .rw[ZZ a2]at e1;rw[ZY b2]at e2;by_cases a3:i=pre.length+o.length
   .rw[ZY a3]at e1;exact absurd e2 (f7 _ a e1)
   .rw[ZZ a3]at e1;have:=h.dis _ _ a e1 e2;lia
  .rw[ZZ a2]at e1;rw[ZZ b2]at e2;by_cases a3:i=pre.length+o.length<;>by_cases b3:j=pre.length+o.length
   .exact Eq.trans a3 (Eq.symm b3)
   .rw[ZY a3]at e1;rw[ZZ b3]at e2;exact absurd e2 (f7 _ a e1)
   .rw[ZZ a3]at e1;rw[ZY b3]at e2;exact absurd e1 (f7 _ a e2)
   .rw[ZZ a3]at e1;rw[ZZ b3]at e2;have:=h.dis _ _ a e1 e2;lia
def W4{K:Frag}{σ:L2.St}{Q:VK}{n:Nat}{g:zn}{rc:RT}{re:RE}{own:zC}{o:List OT}{H1:Hp}{J:It}{xs:List T}{R:OT->Prop}{D:Addr}(h1:SR K own H1 σ o)(wk:Wlk K J (hd (Ow own) H1) xs)(lx:xs.length<=sizeLine)(q:HX g rc re (List.replicate n .und++o) xs λus=>R (.l2 us))(nD:H1 D=none)(k:∀H' v x,R x->Same H1 H'->NR K (Ow own) H1 H' v x->Q v H') :
  ∃W:Nat->Nat->Ε->Hp->Prop,(∃m,W 0 m [] (upd H1 D (.lst [])))/\∀i m ys Hc,W i m ys Hc ->
   (J.stop i Hc/\Q (.ref D) Hc)\/(J.go i Hc/\∀x H',J.yld i Hc x H'->∀pre:L2.St,pre.length=n->tMG (tQG K n g) x (pre++σ) H' λσ2 H2=>∃b8:L2.St,b8.length=n/\σ2=b8++σ/\tMT (tQT K rc) σ2 H2 λb H3 =>
    match b with
    |true=>tM (tQ K re) σ2 H3 λy H4=>ys.length<sizeLine/\H4 D=some (.lst ys)/\∃m',m'<m/\W (i+1) m' (ys++[y]) (upd H4 D (.lst (ys++[y])))
    |false=>∃m',m'<m/\W (i+1) m' ys H3):=by
 generalize hO:List.replicate n OT.und++o=ob at q;refine⟨λi m ys Hc=>∃(bs:Φ)(tss:List (List T)),ys=bs.map V.ref/\Hc D=some (.lst ys)/\Same H1 Hc/\(D::bs).Nodup/\(∀b∈bs,H1 b=none)/\bs.length=tss.length/\(∀(i:Nat)b ts,bs[i]?=some b->tss[i]?=some ts->∃xs,Hc b=some (.lst xs)/\bV K (hd (λb=>Ow own b\/b∈D::bs) Hc) xs ts)/\ys.length<=i/\i<=xs.length/\m=xs.length-i/\HX g rc re ob (xs.drop i) λus=>R (.l2 (tss++us)),⟨_,[],[],rfl,bY,Same.upd nD,by simp,λ_ z=>(nomatch z),rfl,(λi b ts e=>by cases e),aG _,aZ _,rfl,q⟩,?_⟩;rintro i m ys Hc ⟨bs,tss,rfl,eD,Ec,nd,nb,bl,rs,il,ix,rfl,hl⟩;have nA:∀a∈D::bs,H1 a=none:=λa ha=>by
  rcases YU.mp ha with z|z
  .rw[z];exact nD
  .exact nb a z
 have eA:∀a∈D::bs,∃ys,Hc a=some (.lst ys):=λa ha=>by
  rcases YU.mp ha with z|z
  .exact⟨_,z ▸ eD⟩
  .obtain⟨j,e⟩:=aV z;have lj:=(ao.mp e).1;obtain⟨zs,e2,_⟩:=rs j a _ e (aj (aR lj (WG bl)));exact⟨zs,e2⟩
 have hn:∀b,Ow own b\/b∈D::bs->Hc b≠none:=λb z=>z.elim (λz=>((h1.same Ec).sole z).ne) λe z=>by obtain⟨ys,ey⟩:=eA b e;rw[ey]at z;cases z
 have SD:Same (hd (Ow own) H1) (hd (λb=>Ow own b\/b∈D::bs) Hc):=gW (λb z=>z.imp id (nA b)) Ec;obtain⟨w1,w2⟩:=wk (λb=>Ow own b\/b∈D::bs) Hc i hn SD;by_cases hi:i<xs.length
 .right;obtain⟨go,yl⟩:=w2 _ (aj hi);rw[Q1 hi]at hl;obtain⟨N,M,hN,hM,hl⟩:=hl;refine⟨go,λx H2 y pre hp=>?_⟩;obtain⟨E2,rx⟩:=yl x H2 y;have eO:(λb=>Ow own b\/b∈D::bs)=Ow (ownL2 n o.length own (D::bs)):=funext λb=>propext Ow.ownL2.symm;have hb:SR K (ownL2 n o.length own (D::bs)) H2 (pre++σ) ob:=by
   have:=h1.blockL (Ec.trans E2) nA (λa ha=>let⟨ys,e⟩:=eA a ha;⟨ys,E2 _ _ e⟩) pre;rw[hp,hO]at this;exact this
  rw[eO]at rx rs;refine⟨_,⟨ownL2 n o.length own (D::bs),ob,_,_,hb,rx,hl,λfm σ3 o3 q3 iO h3=>?_⟩,λ_ _ z=>z⟩;obtain⟨b8,eJ,rfl⟩:=Qo hp iO;have e3:fm=ownL2 n o.length own (D::bs):=funext λj=>by
   rcases iO.1 j with e|⟨e1,e2⟩
   .exact e
   .rw[e2];unfold ownL2;rw[ZY e1]
  subst e3;refine⟨b8,eJ,rfl,_,tQT.mk h3 q3 λH3 b q4 E3=>?_,λ_ _ z=>z⟩;have q4:sw b (re o3 λy=>match y with|.l1 us=>N us|_=>False) M:=q4;cases b with
  |false=>exact⟨xs.length-(i+1),by lia,bs,tss,rfl,E3 _ _ (E2 _ _ eD),Ec.trans (E2.trans E3),nd,nb,bl,λj b ts e1 e2=>by
    obtain⟨zs,ez,rz⟩:=rs j b ts e1 e2;rw[eO];exact⟨zs,E3 _ _ (E2 _ _ ez),rz.same (bN (E2.trans E3))⟩,by exact aL il (X1 _ _),by exact hi,rfl,hM q4⟩
  |true =>
   refine⟨_,⟨_,_,_,h3.same E3,q4,λH4 v y q5 E4 r4=>?_⟩,λ_ _ z=>z⟩
   match y,q5,r4 with
   |.l1 us,q5,r4 =>
    obtain⟨B,nB,p,zs,ev,rfl,ep,rp⟩:=r4;cases ev;have np:H3 p=none:=nB p (by simp);have pn:∀{a:Addr}{u:HO},H3 a=some u->a≠p:=λe z=>by rw[z,np]at e;cases e
    have E:Same Hc H3:=E2.trans E3;have pD:D≠p:=pn (E _ _ eD);have pb:p∉bs:=λz=>by
     obtain⟨ys,ey⟩:=eA p (aJ _ z);exact pn (E _ _ ey) rfl
    have inD:∀(H:Hp)(u:HO),hd (λb=>Ow own b\/b∈D::(bs++[p])) (upd H D u)=hd (λb=>Ow own b\/b∈D::(bs++[p])) H:=λH u=>vN (S:=λb=>Ow own b\/b∈D::(bs++[p])) (.inr (by simp));refine⟨by lia,E4 _ _ (E _ _ eD),xs.length-(i+1),by lia,bs++[p],tss++[us],by rw[bf];rfl,bY,λb u e=>?_,?_,λb hb=>?_,by simp[bl],λj b ts e1 e2=>?_,by rw[aA,List.length_singleton];exact Nat.succ_le_succ il,by exact hi,rfl,?_⟩
    .rw[bO λz=>by rw[z,nD]at e;cases e];exact E4 _ _ (E _ _ (Ec _ _ e))
    .rw[<- List.cons_append];exact List.nodup_append.mpr ⟨nd,by simp,λa ha c hc z=>by
      rw[YR.mp hc]at z;rcases YU.mp ha with y|y
      .exact pD (y.symm.trans z)
      .exact pb (z ▸ y)⟩
    .rcases Y1.mp hb with z|z
     .exact nb b z
     .rw[YR.mp z];exact(Ec.trans E).free np
    .rw[inD];by_cases hj:j<bs.length
     .rw[aF hj]at e1;rw[aF (aR hj (WG bl))]at e2;obtain⟨zs,ez,rz⟩:=rs j b ts e1 e2;have bD:b≠D:=λz=>(List.nodup_cons.mp nd).1 (z ▸ aC e1);refine⟨zs,by rw[bO bD];exact E4 _ _ (E _ _ ez),rz.same ?_⟩;rw[<- eO];exact gW (λc z=>by
       rcases z with z|z
       .exact .inl (.inl z)
       .rw[<- List.cons_append]at z;rcases Y1.mp z with y|y
        .exact .inl (.inr y)
        .rw[YR.mp y];exact .inr (E.free np)) (E.trans E4)
     .rw[aD (VS hj)]at e1;rw[aD (by lia)]at e2;have j0:j-bs.length=0:=by
       have:=(ao.mp e1).1;simp at this;omega
      rw[j0]at e1;rw[show j-tss.length=0 by lia]at e2;cases e1;cases e2;refine⟨_,by rw[bO (Ne.symm pD)];exact ep,rp.same (gW (λc z=>.inl ?_) λ_ _ z=>z)⟩;rcases z with z|z
      .exact .inl (Ow.ownL2.mpr (.inl z))
      .rw[<- List.cons_append]at z;rcases Y1.mp z with y|y
       .exact .inl (Ow.ownL2.mpr (.inr y))
       .exact .inr y
    .have:=hN _ q5;simp only[Wp,List.singleton_append];exact this
 .left;have:i=xs.length:=by lia
  refine⟨w1 this,?_⟩;rw[Th (VS hi)]at hl;have hl:R (.l2 (tss++[])):=hl;rw[List.append_nil]at hl;exact k Hc _ _ hl Ec ⟨D::bs,nA,D,bs,rfl,rfl,nd,eD,bl,rs⟩
def Wq{K:Frag}{σ:L2.St}{H:Hp}{Q:VK}{ri:RI}{n:Nat}{g:zn}{rc:RT}{re:RE}(h:tQ K (abf ri n g rc re) σ H Q):qg (tQI K ri) n (tMG (tQG K n g)) (tMT (tQT K rc)) (tM (tQ K re)) σ H Q:=by
 obtain⟨own,o,R,h,hr,k⟩:=h;exact⟨own,o,_,h,hr,λH1 J xs q E1 wk D nD=>W4 (h.same E1) wk q.1 q.2 nD λH' v x rx E n=>k H' v x rx (E1.trans E) (n.back E1)⟩
section
variable{X:Cx}{tg iter bg:Expr}{aI:List Expr}{ri:RI}{g:zn}{rc:RT}{re:RE}{scope:Scope}{pos:Pos}
def Zv(sc:Scope)(N N':Θ)(x0:Str)(hi:QI X tg iter ri)(hg:∀{C s₀ H₀ ex pn},QG (X.compGC N' scope x0 C s₀ H₀ ex pn) 1 tg g)(ht:∀{C s₀ H₀ ex pn},QTs (X.compGC N' scope x0 C s₀ H₀ ex pn) aI rc)(he:∀{C s₀ H₀ ex pn},QE (X.compGC N' scope x0 C s₀ H₀ ex pn) bg re)
 (cS:X.env.scope=sc:=by rfl)(c8:X.N=N:=by rfl)(hc:X.calm=true:=by rfl)(hk:scope.kind=.function:=by rfl)(gi:∀n acc,cellsFrom n scope.names acc=(x0,n)::acc:=by intro _ _;rfl)(gd:∀h,pushCells h scope.names=h.push { cls:=.type "cell",data:=.cell none }:=by intro _;rfl)(h:(∀y∈scope.names,y.2=.cell->y.1=x0)/\CK0 sc scope N N' [x0]:=by decide +kernel)(hs:zh X iter:=by intro _;rfl):QE X (.ListComp bg [⟨tg,iter,aI,0⟩] scope pos) (abf ri 1 g rc re) :=
 (Y5 (gt:=tQG X.K 1 g) (tc:=tQT X.K rc) (te:=tQ X.K re) sc N N' x0 hi hg ht he cS c8 hc hk gi gd h hs).imp λ_ _ _=>Wq
def acT{i0:Nat}{y0:Str}{py cb:Pos}(sc:Scope)(N N' xs:Θ)(hi:QI X tg iter ri)(hg:∀{C s₀ H₀ ex pn},QG (X.compG N' scope xs C s₀ H₀ ex pn) xs.length tg g)(ht:∀{C s₀ H₀ ex pn},QTs (X.compG N' scope xs C s₀ H₀ ex pn) aI rc)(he:∀{C s₀ H₀ ex pn},QE (X.compG N' scope xs C s₀ H₀ ex pn) bg re)(gf:PG X (.Name y0 py) (yO i0))
 (cS:X.env.scope=sc:=by rfl)(c8:X.N=N:=by rfl)(hc:X.calm=true:=by rfl)(hk:scope.kind=.function:=by rfl)(h:CK sc scope N N' xs:=by decide +kernel)(f':swapsWith (.ListComp bg [⟨tg,iter,aI,0⟩] scope pos) (some (.Name y0 py)) cb.line X.env=pure true:=by rfl)(hs:zh X iter:=by intro _;rfl) :
  QS X (.Assign [.Name y0 py] (.ListComp bg [⟨tg,iter,aI,0⟩] scope pos) cb) (afJ i0 (abf ri xs.length g rc re)):=(abU (gt:=tQG X.K xs.length g) (tc:=tQT X.K rc) (te:=tQ X.K re) sc N N' xs hi hg ht he gf cS c8 hc hk h f' hs).imp λD σ H ⟨own,o,E,h,hr,L⟩=>Wq ⟨own,o,_,h,hr,λH' v y q S n=>by
 obtain⟨am,h',S'⟩:=h.putA S n i0;exact L.nx am H' _ _ q S' h'⟩
theorem KR{α:Type}(h:α->T)(f:α->List T){c:RT}{e:RE}{o:List OT} : ∀(l:List α){q:List (List T)->Prop},(∀a∈l,∀(N:List T->Prop)(M:Prop),N (f a)->g (h a) o λo'=>c o' λb=>sw b (e o' λy=>match y with|.l1 us=>N us|_=>False) M)->q (l.map f)->HX g c e o (l.map h) q
 |[],_,_,k=>k
 |a::l,q,st,k=>⟨λy=>y=f a,False,λy z=>KR h f l (λa ha=>st a (aJ _ ha)) (z ▸ k),False.elim,st a (aO ..) (λy=>y=f a) False rfl⟩
def Qz{c:RT}{e:RE}{o:List OT}{q:List (List T)->Prop}(f:Nat->List T)(n:Nat)(st:∀k,k<n->∀(N:List T->Prop)(M:Prop),N (f k)->g (.int (k:Nat)) o λo'=>c o' λb=>sw b (e o' λy=>match y with|.l1 us=>N us|_=>False) M)(k:q ((List.range n).map f)):HX g c e o (rng 0 n) q:=by
 refine KR (λk:Nat=>.int (0+k)) f (List.range n) (λa ha N M hN=>?_) k;have:=st a (List.mem_range.mp ha) N M hN;show g (.int (0+((a:Nat):Int))) o _;rw[show(0:Int)+((a:Nat):Int)=((a:Nat):Int)by exact Q3 _];exact this
end
section
variable{X:Cx}
theorem bV.strs{K:Frag}{F:Hp} : ∀{xs:Ε}{ys:Θ},bV K F xs (ys.map T.str)->xs=ys.map V.str
 |_,[],h=>by cases h;rfl
 |_,y::ys,h=>by
  cases h with
  |cons a b =>
   cases a;rw[bV.strs b];rfl
def rJn(a:RE)(r:RA):RE:=λo q=>a o λx=>match frz x with
 |.str s=>r o λus=>∃ys:Θ,us=[.lst (ys.map T.str)]/\(ys.map (·.length)).sum+ys.length*s.length<=16777216/\q (.fz (.str (Txt.join s ys)))
 |_=>False
def adC{o e:Expr}{ra:RE}{r:RA}{ag af:Pos}(ho:QE X o ra)(ha:QA X [e] r)(hb:attributeBase o "join" X.env (eval o X.env)=eval o X.env:=by rfl)
 (hf:zo X af e:=by rfl)
 (hl:zD ag af:=by rfl)(hs:zb X e []:=by rfl)(hp:zg X af []:=by rfl) :
  QE X (.Call (.Attribute o "join" ag) [e] [] af) (rJn ra r):=by
 refine(ajE PySem.F.slot_str_join PySem.F.type_str_join adD ho ha hb hf hl hs hp).imp λσ H Q hP=>?_;obtain⟨own,o,R,h,hr,k⟩:=hP;refine tQ.mk h hr λH1 v x q E1 r1=>?_;cases ex:frz x with
 |str s =>
  rw[ex]at q r1;cases r1;refine⟨⟨s,rfl⟩,tQA.mk (h.same E1) q λH2 vs us q2 _ E2 r2=>?_⟩;obtain⟨ys,rfl,lz,q3⟩:=q2;obtain⟨y,rfl,ry⟩:=r2.one;obtain⟨p,xs,rfl,e,rx⟩:=ry.lstI;exact⟨s,p,ys,rfl,rfl,rx.strs ▸ (cI e).2,lz,k H2 _ _ q3 (E1.trans E2) (NR.fz (.str _))⟩
 |_=>rw[ex]at q;exact q.elim
def notStar:Expr->Bool
 |.Starred ..=>false
 |_=>true
def ae2{e:Expr}{es:List Expr}{env:Env}(h:notStar e=true):starEach (e::es) env=(false,eval e env)::starEach es env:=by
 cases e<;>first|rfl|cases h
structure QEB(X:Cx)(e:Expr)(r:RE):Prop where
 out:QE X e r
structure QAB(X:Cx)(es:List Expr)(r:RA):Prop where
 out:QA X es r
def CZ{e:Expr}{r:RE}(h:QE X e r):QEB X e r:=⟨h⟩
def WK{i j pos} : QEB X (.Constant (.int i) j pos) (rC (.int i)):=⟨bx⟩
def akD(i:Nat){x:Str}{pos:Pos}(hN:X.N[i]?=some x:=by rfl)(hv:pP X.env.scope x=true:=by rfl)(hd:zk x:=by decide)(a8:zw x:=by decide):QEB X (.Name x pos) (Ji i):=⟨qv i hN hv hd a8⟩
def afn{op:Operator}{g:zi}{a b:Expr}{ra rb:RE}{pos:Pos}(ho:GO X (binaryOp op) g)(ha:QEB X a ra)(hb:QEB X b rb):QEB X (.BinOp a op b pos) (rOp g ra rb):=⟨bJ ho ha.out hb.out⟩
def ud:QAB X [] agn:=⟨bA⟩
def gH{e:Expr}{es:List Expr}{a:RE}{r:RA}(ha:QEB X e a)(hr:QAB X es r)(hn:notStar e=true:=by rfl):QAB X (e::es) (aeU a r):=⟨bw ha.out hr.out (ae2 hn)⟩
def z8{es:List Expr}{r:RA}{pos:Pos}{k:Nat}(h:QAB X es r)(hz:es.length<=sizeLine:=by decide):QEB X (.Tuple es k pos) (ajT r):=⟨cX h.out hz⟩
def Ws{es:List Expr}{r:RA}{pos:Pos}(h:QAB X es r)(hz:es.length<=sizeLine:=by decide):QEB X (.List es pos) (aiA r):=⟨dz h.out hz⟩
def ahN:zi
 |.int i,.int j,q=>adp i j/\q (.fz (.int (i*j)))
 |_,_,_=>False
def FZ:GO X (binaryOp .Mult) ahN:=afq.imp λx y H Q hP=>by
 obtain⟨S,t,u,R,_,hx,hy,hg,k⟩:=hP;cases hx<;>try exact hg.elim
 cases hy<;>try exact hg.elim
 exact⟨_,_,rfl,rfl,hg.1,k H _ _ hg.2 (.refl _) (NR.fz (.int _))⟩
def amv(n:Nat)(gs:ze):zn
 |.lst ts,o,q=>ts.length=n/\gs ts o q
 |_,_,_=>False
def afp{pos:Pos}{m:Nat}{es:List Expr}{k:Nat}{gs:ze}{n:Nat}(hc:X.calm=true)(h:QGs X m es gs)(hn:(assignEach es X.env).length=n:=by rfl)(bj:zS X es:=by rfl):QG X m (.Tuple es k pos) (amv n gs):=(acJ hc h hn bj).imp λv σ H Q hP=>by
 obtain⟨own,o,t,R,h,r,hg,k⟩:=hP;cases t<;>try exact hg.elim
 obtain⟨a,xs,rfl,e,r⟩:=r.lstI;exact⟨a,xs,rfl,SqL.of (cC _ _ e),r.len.trans hg.1,own,o,_,R,h,r,hg.2,k⟩
end
section
variable{a b c d e f x y:RS}{E:DT}{o:List OT}
def sq1(J:List OT->Prop)(k:∀o',J o'->y E o')(h:∀Y:List OT->Prop,(∀o',J o'->Y o')->d9 x (λ_=>Y) E o):d9 x y E o:=h (y E) k
def sq2(J:List OT->Prop)(k:∀o',J o'->y E o')(h:∀Y:List OT->Prop,(∀o',J o'->Y o')->d9 a (d9 x (λ_=>Y)) E o):d9 a (d9 x y) E o:=h (y E) k
def sq4(J:List OT->Prop)(k:∀o',J o'->y E o')(h:∀Y:List OT->Prop,(∀o',J o'->Y o')->d9 a (d9 b (d9 c (d9 x (λ_=>Y)))) E o):d9 a (d9 b (d9 c (d9 x y))) E o:=h (y E) k
def sq7(J:List OT->Prop)(k:∀o',J o'->y E o')(h:∀Y:List OT->Prop,(∀o',J o'->Y o')->d9 a (d9 b (d9 c (d9 d (d9 e (d9 f (d9 x (λ_=>Y))))))) E o):d9 a (d9 b (d9 c (d9 d (d9 e (d9 f (d9 x y)))))) E o:=h (y E) k
end
abbrev XC:=Addr->Θ->List T->Prop
abbrev SX:=List T->(OT->Prop)->XC->Prop
def spX(K:Frag)(S:SX):Sp:=λvs H Q E=>∃ts R Z,bV K H vs ts/\S ts R Z/\(∀H' v x,R x->Same H H'->NR K (λ_=>False) H H' v x->Q v H') /\
 ∀H' C d ks us cy,Z C ks cy->Same H H'->H' d=some (.xd (ks.zip us))->bV K H' us cy->E (.ref C) (some d) H'
abbrev ag0(P:Program)(w:World)(K:Frag)(mg:Str->Ψ)(base:Heap)(k:Nat)(x:Str)(ps:Θ)(S:SX):Prop:=OkX P w K mg base k x ps (spX K S)
section
variable{P:Program}{w:World}{K:Frag}{mg:Str->Ψ}{base:Heap}
def Fun.okTX{x ah:Str}{st:Stmt}{f:Addr}{fd:FuncData}{N ps:Θ}{k:Nat}{S:SX}(F:Fun K x ah st f fd)(sc:bK N ps (bF st))
 (be:∀(ai:Value)(A:Around)(outer:List Env)(s:Shared)(H:Hp)(E:XK),dh k (A.deeper (envOfC ah (bF st) s.heap.objs.size f ai))->N.Nodup ->
   ∃r,QSs (zX (CXO P w) P w K mg base N ah (bF st) f ai A outer s H E) (eU st) r/\∀ts R Z,S ts R Z->r { nx:=λ_=>R (.fz .non),rt:=R,xc:=Z } (start' N.length ts))(len:∀ts R Z,S ts R Z->ts.length=ps.length:=by intro _ _ _ h;repeat (first|exact(ZH List.length h.1).trans rfl|obtain⟨_,h⟩:=h)):dI P w K mg base (CXO P w) (k+1) f fd ps (spX K S):=by
 refine F.okX sc (λvs H Q E h=>?_) λai A outer s H vs Q E hr h=>?_
 .obtain⟨ts,R,Z,r,hS,_⟩:=h;exact r.len.trans (len ts R Z hS)
 .obtain⟨ts,R,Z,r,hS,q,qx⟩:=h;obtain⟨rd,h1,h2⟩:=be ai A outer s H E hr sc.nd;have e0:hd (Ow λ_=>[]) H=H:=by rw[show Ow (λ_=>[])=λ_=>False from funext λb=>propext ⟨λhP=>by obtain⟨_,z⟩:=hP;exact(nomatch z),False.elim⟩,Gd]
  have aS:∀(S:Addr->Prop)H' v x B,R x->Same H (hd S H')->Slo K (hd S H') H' (some v) B x->(∀a∈B,S a)->Q v H':=λS' H' v x B rx E s hB =>
   q H' v x rx (E.trans cC) ⟨B,λa ha=>E.free (n8 (hB a ha)),s.same (gW (λb z=>.inl (z.elim False.elim (hB b))) λ_ _ z=>z) λ_ _ z=>z⟩
  refine⟨_,h1,λ_=>[],_,_,SR.start r N,h2 ts R Z hS,⟨λown H' σ o rx E h=>?_,λS' H' v x B rx E s hB=>aS S' H' v x B rx (e0 ▸ E) s hB,λ_ _ _ _ z=>z.elim,λ_ _ _ _ z=>z.elim,λH' C d ks us cy z E e r'=>?_⟩⟩
  .exact aS (Ow own) H' .non _ [] rx (e0 ▸ E) ⟨rfl,_,rfl,.non⟩ λ_ z=>(nomatch z)
  .have e1:=qx H' C d ks us cy z (e0 ▸ E) e r';exact⟨λaa σ H2 s2 a s' B I F2=>ab6 aa σ H2 s2 a _ H' s' B _ I F2 e1,λaa σ H2 s2 a c ec I ha ge eo=>W9 aa σ H2 s2 a c _ I ha ge (by rw[eo,<- ec];exact e1)⟩
end
section
variable{X:Cx}
def Z_:Yu X λC d _ H'=>zx X C d H':=λaa σ H s a C H' s' B d I F z=>z.1 aa σ H s a s' B I F
def Zn:TY X λC d _ H'=>zx X C d H':=λaa σ H s a C d I e g z=>z.2 aa σ H s a C rfl I e g rfl
def afK(S:SX)(r:RA):RS:=λE o=>r o λts=>S ts (λ_=>E.nx o) E.xc
def aad{p pos ay:Pos}{e:Expr}{es:List Expr}{r:RA}{x:Str}{k:Nat}{ps:Θ}{S:SX}(G:ag0 X.prog X.w X.K X.mg X.base k x ps S)(ha:QA X (e::es) r)(hr:dh k X.A:=by exact dh.mono (by assumption) (by decide))(hg:Gl X x:=by rfl)(bz:zk x:=by decide)
 (he:zb X e es:=by rfl)(aE:zg X pos es:=by rfl)
 (hs:swapsWith (.Call (.Name x p) (e::es) [] pos) none ay.line X.env=pure false:=by rfl):QS X (.Expr (.Call (.Name x p) (e::es) [] pos) ay) (afK S r) :=
 (iY (Sq G hr hg Z_ ha bz he aE) hs).imp λD σ H ⟨own,o,E,h,hr,L⟩=>tQA.mk h hr λH1 vs ts q _ E1 r1=>by
  refine⟨ts,_,_,r1.same cC,q,λH' v x q S n=>?_,λH' C d ks us cy z S e r'=>L.xc H' C d ks us cy z (cC.trans (E1.trans S)) e r'⟩;exact L.nx own H' σ o q (bN (E1.trans S)) (h.same (E1.trans S))
def Yp(C:Addr)(cK:Str):Sp:=λvs H Q _=>∃a v,vs=[.ref a,v]/\H a=some (XN a C none)/\∀d,H d=none->d≠a->Q .non (upd (upd H a (XN a C (some d))) d (.xd [(cK,v)]))
def agt{H:Hp}{a d:Addr}{o o' x:HO}(n:H a=none)(e:d≠a):out (upd (upd (upd H a o) a o') d x) a=upd H d x:=by
 funext b
 by_cases z:b=a
 .subst z;rw[Sy,bO (Ne.symm e),n]
 .rw[xT z];by_cases y:b=d
  .subst y;rw[bY,bY]
  .rw[bO y,bO z,bO z,bO y]
def agJ(C:Addr)(cK:Str)(re:RE):RS:=λE o=>re o λx=>E.xc C [cK] [frz x]
def Gv{x cK:Str}{np af pos:Pos}{e:Expr}{re:RE}{C HE fI:Addr}{k:Nat}{ps:Θ}(hc:X.calm=true)(hm:X.mg x=some (.ref C))(q:Jt X.K C HE fI)(G:zI X CX0 k fI ps (Yp C cK))(ha:QE X e re)(hr:dh (k+1) X.A:=by exact dh.mono (by assumption) (by decide))(hg:Gl X x:=by rfl)(bz:zk x:=by decide)
 (he:zb X e []:=by rfl)(aE:zg X af []:=by rfl) :
  QS X (.Raise (some (.Call (.Name x np) [e] [] af)) none pos) (agJ C cK re) :=
 (Xg hc hg hm q G hr Zn (bw ha bA he) bz he aE).imp λD σ H ⟨own,o,E,h,hr,L⟩=>tQA.mk h hr λH1 vs ts q ln E1 r1=>by
  obtain⟨t,rfl⟩ : ∃t,ts=[t]:=by
   match ts,ln with
   |[t],_=>exact⟨t,rfl⟩
  obtain⟨v,rfl⟩ : ∃v,vs=[v]:=by
   match vs,r1.len with
   |[v],_=>exact⟨v,rfl⟩
  refine⟨(show 1<=sizeLine by decide),λa ha=>⟨a,v,rfl,bY,λd hd da=>⟨rfl,some d,(bO (Ne.symm da)).trans bY,?_⟩⟩⟩;rw[agt ha da];have br:H1 d=none:=by rw[bO da]at hd;exact hd
  exact L.xc _ C d [cK] [v] _ q (cC.trans (E1.trans (Same.upd br))) bY (r1.same (cC.trans (Same.upd br)))
end
section
variable{X:Cx}
def amm:T->(OT->Prop)->Prop
 |.lst ts,q=>q (.fz (.tup ts))
 |_,_=>False
def aaq:GC X (.type "tuple") (g1 amm):=Yo.imp λxs H Q hP=>by
 obtain⟨S,ts,R,hs,rs,hg,k⟩:=hP
 match ts,hg with
 |[t],hg =>
  obtain⟨x,rfl,rx⟩:=rs.one;cases t<;>try exact hg.elim
  obtain⟨p,xs,rfl,e,r⟩:=rx.lstI;exact⟨p,xs,rfl,(cI e).2,λl H' E n e'=>k _ _ _ hg E (NR.fz (.tup (.of (by rw[cL λz=>hs l z n];exact e')) (r.same (bN E))))⟩
def rP(X:Cx)(t:TS):RS:=λE o=>∀own H σ D,SR X.K own H σ o->Lnk X.K (zx X) (hd (Ow own) H) E D->t D σ H
def alT{st:Stmt}{t:TS}(h:PS X st t):QS X st (rP X t):=h.imp λD σ H hP=>by obtain⟨own,o,E,s,hr,L⟩:=hP;exact hr own H σ D s L
def ownG(n:Nat)(own:zC)(j:Nat):Φ:=if j<n then[]else own (j-n)
def FP{n j:Nat}{own:zC}(h:j<n):ownG n own j=[]:=ZY h
def Al{n j:Nat}{own:zC}(h:¬j<n):ownG n own j=own (j-n):=ZZ h
def Ow.ownG(n:Nat)(own:zC):Ow (L2.ownG n own)=Ow own:=funext λb=>propext ⟨(λhP=>by
 obtain⟨j,z⟩:=hP;by_cases c:j<n
 .rw[FP c]at z;cases z
 .rw[Al c]at z;exact⟨_,z⟩),λhP=>by obtain⟨j,z⟩:=hP;exact⟨j+n,by rw[Al (UR (Nat.le_add_left _ _)),Nat.add_sub_cancel];exact z⟩⟩
def alM:OT->Bool
 |.und=>true
 |.fz _=>true
 |_=>false
def amM:OT->Bool
 |.und=>true
 |.fz _=>true
 |.l1 _=>true
 |.l2 _=>true
 |_=>false
def drp(o:List OT):List Nat->List OT
 |[]=>o
 |j::js=>(drp o js).set j .und
theorem Vw(o:List OT):∀js,(drp o js).length=o.length
 |[]=>rfl
 |j::js=>by unfold drp;rw[WH,Vw o js]
theorem ZL{o:List OT}{i:Nat}{x:OT} : ∀{js:List Nat},(drp o js)[i]?=some x->x=.und\/(i∉js/\o[i]?=some x)
 |[],e=>.inr ⟨(nomatch ·),e⟩
 |j::js,e=>by
  unfold drp at e;by_cases c:j=i
  .subst c;have l:j<(drp o js).length:=by
    have:=(ao.mp e).1;rwa[WH]at this
   rw[VT l]at e;exact .inl (Option.some.inj e).symm
  .rw[VY c]at e;exact(ZL e).imp id λz=>⟨λm=>(YU.mp m).elim (λy=>c y.symm) z.1,z.2⟩
def SR.lists{K:Frag}{own:zC}{H:Hp}{σ:L2.St}{o:List OT}(h:SR K own H σ o)(f:o.all amM=true){b:Addr}(hb:Ow own b):∃ys,H b=some (.lst ys):=by
 obtain⟨i,z⟩:=hb;by_cases c:i<o.length
 .have s:=h.sl i _ (aj c);have q:=(List.all_eq_true.mp f) _ (aU c);obtain⟨u,e,w⟩:=s.sole z;rcases w with⟨xs,rfl⟩|w
  .exact⟨xs,e⟩
  exfalso;cases y:o[i]with
  |und=>rw[y]at s;rw[show own i=[]from s]at z;cases z
  |fz t=>rw[y]at s;rw[s.1]at z;cases z
  |l1 ts =>
   rw[y]at s;obtain⟨a,xs,_,ea,e2,_⟩:=s;rw[ea]at z;cases YR.mp z;rw[e2]at e;cases e;rcases w with⟨k,w⟩|⟨C,d,f,w⟩|⟨x,w⟩<;>cases w
  |l2 tss =>
   rw[y]at s;obtain⟨a,bs,_,ea,_,e2,lb,hc⟩:=s;rw[ea]at z;have:∃xs,H b=some (.lst xs):=by
    rcases YU.mp z with rfl|z
    .exact⟨_,e2⟩
    .obtain⟨j,ej⟩:=aV z;obtain⟨xs,e3,_⟩:=hc j b _ ej (aj (by rw[<- lb];exact(ao.mp ej).1));exact⟨xs,e3⟩
   obtain⟨xs,e3⟩:=this;rw[e3]at e;cases e;rcases w with⟨k,w⟩|⟨C,d,f,w⟩|⟨x,w⟩<;>cases w
  |_=>rw[y]at q;cases q
 .exact h.out i (VS c) b z
def SR.ghost{K:Frag}{own:zC}{H H':Hp}{σ σ':L2.St}{o:List OT}(h:SR K own H σ o)(S:Same (hd (Ow own) H) (hd (Ow own) H'))(ls:∀b,Ow own b->∃xs,H' b=some (.lst xs))(l:σ'.length=σ.length)(js:List Nat)(se:∀i,i∉js->σ'[i]?=σ[i]?)(fz:(drp o js).all alM=true):SR K (ownG (drp o js).length own) H' σ' (drp o js):=by
 refine⟨by rw[Vw,l,h.len],λi x ex=>?_,λi hi a ha=>?_,λi j a ha hb=>?_⟩
 .rw[Ow.ownG,FP (ao.mp ex).1];have q:=(List.all_eq_true.mp fz) x (aC ex);rcases ZL ex with rfl|⟨nj,eo⟩
  .rfl
  .cases x with
   |und=>rfl
   |fz t =>
    obtain⟨u,eu,r⟩:=h.get eo;exact⟨rfl,u,by rw[se i nj,eu];rfl,r.same S⟩
   |_=>cases q
 .rw[Al (UR hi)]at ha;exact ls a ⟨_,ha⟩
 .by_cases c:i<(drp o js).length
  .rw[FP c]at ha;cases ha
  by_cases d:j<(drp o js).length
  .rw[FP d]at hb;cases hb
  rw[Al c]at ha;rw[Al d]at hb;have:=h.dis _ _ a ha hb;omega
def amF:OT->OT->(OT->Prop)->Prop
 |.l1 ts,.l1 us,q=>q (.l2 [ts,us])
 |_,_,_=>False
def am3(a b:RE):RE:=λo q=>a o λx=>b o λy=>amF x y q
def afG{a b:Expr}{ra rb:RE}{pos:Pos}(ha:QE X a ra)(hb:QE X b rb)(hs:starEach [a,b] X.env=(false,eval a X.env)::starEach [b] X.env:=by rfl)(dv:zb X b []:=by rfl):QE X (.List [a,b] pos) (am3 ra rb):=(Tv (cA ha (cA hb jf dv) hs)).imp λσ H Q hP=>by
 obtain⟨own,o,R,h,hr,k⟩:=hP;refine⟨own,o,_,h,hr,λH1 v x q1 E1 n1=>?_⟩;cases x with
 |l1 ts =>
  obtain⟨B,nb,c,xs,ev,rfl,e1,r1⟩:=n1;cases ev;have nc:H c=none:=nb c (by simp);have h1:=h.block E1 nc e1 [];refine⟨_,o,_,h1,q1,λH2 w y q2 E2 n2=>?_⟩;cases y with
  |l1 us =>
   obtain⟨B2,nb2,d,ys,ew,rfl,e2,r2⟩:=n2;cases ew;have nd:H1 d=none:=nb2 d (by simp);refine⟨(show 2<=sizeLine by decide),λp hp=>?_⟩;have np:=E2.free hp;have gp:=E2 _ _ e1;have pc:p≠c:=λz=>by rw[z,gp]at hp;cases hp
   have pd:p≠d:=λz=>by rw[z,e2]at hp;cases hp
   have cd:c≠d:=λz=>by rw[<- z,e1]at nd;cases nd
   have U:Same H2 (upd H2 p (.lst [V.ref c,V.ref d])):=Same.upd hp;refine k _ _ _ q2 (E1.trans (E2.trans U)) ⟨[p,c,d],λb hb=>?_,p,[c,d],rfl,rfl,?_,bY,rfl,λi b cy eb et=>?_⟩
   .simp only[YU,VZ,or_false]at hb;rcases hb with rfl|rfl|rfl
    .exact E1.free np
    .exact nc
    .exact E1.free nd
   .simp[pc,pd,cd]
   .match i,eb,et with
    |0,rfl,rfl =>
     refine⟨xs,U _ _ gp,r1.same (gW (λb z=>?_) (E2.trans U))⟩;rcases z with z|z
     .exact .inl (.inl z)
     .simp only[YU,VZ,or_false]at z;rcases z with rfl|rfl|rfl
      .exact .inr np
      .exact .inl (.inr (by simp))
      .exact .inr nd
    |1,rfl,rfl =>
     refine⟨ys,U _ _ e2,r2.same (gW (λb z=>?_) U)⟩;rcases z with z|z
     .exact .inl (.inl (Ow.ownS.mpr (.inl z)))
     .simp only[YU,VZ,or_false]at z;rcases z with rfl|rfl|rfl
      .exact .inr hp
      .exact .inl (.inl (Ow.ownS.mpr (.inr rfl)))
      .exact .inl (.inr (by simp))
  |_=>exact q2.elim
 |_=>exact⟨own,o,_,h.same E1,q1,λ_ _ _ q _ _=>q.elim⟩
end
section
variable{X:Cx}{pos ky kx np np2:Pos}{bP ff fe:List Stmt}{b₀ b2:Stmt}{n Dn lT:Str}{D D2:Addr}{i:Nat}{tb:(Value->Ω->L2.St->Hp->Prop)->TS}{th kQ:TS}
def adl(K:Frag)(D D2:Addr)(i:Nat)(tb:(Value->Ω->L2.St->Hp->Prop)->TS)(th kQ:TS):TS:=λR σ H =>
 ∃Ex:Value->Ω->L2.St->Hp->Prop,tb Ex R σ H/\∀C' d σ' H',Ex C' d σ' H'->∃C,C'=.ref C/\((mroIn K C (.ref D)=some true/\∀a,H' a=none->th (R.unset i) (σ'.set i (some (.ref a))) (upd H' a (XO a C d))) \/
  (mroIn K C (.ref D)=some false/\mroIn K C (.ref D2)=some true/\∀a,H' a=none->kQ (R.unset i) (σ'.set i (some (.ref a))) (upd H' a (XO a C d))))
def Yv(hN:X.N.Nodup)(hi:X.N[i]?=some n)(gN:X.env.scope.names.lookup n=some .local)(hgD:Gl X Dn)(hmD:X.mg Dn=some (.ref D))(qD:mroIn X.K D (.type "BaseException")=some true)
 (kP:typeIn X.K (.ref D)=some (.type "type"))(oB:Gl X lT)(om:X.mg lT=some (.ref D2))(qD2:mroIn X.K D2 (.type "BaseException")=some true)(l9:typeIn X.K (.ref D2)=some (.type "type"))(bj:X.stack=X.env::X.outer)(dA:X.env.frame=some X.env.locals)(hex:X.ex=[])
 (hb:∀pn' E' Ex,Yu (X.tryc pn' E') Ex->PSs (X.tryc pn' E') bP (tb Ex))(hh:∀a E',PSs (X.marked a E') (b₀::ff) th)(hh2:∀a E',PSs (X.marked a E') (b2::fe) kQ)(bz:zk Dn:=by decide)(pf:zk lT:=by decide) :
  PS X (.Try bP [.ExceptHandler (some (.Name Dn np)) (some n) (b₀::ff) ky,.ExceptHandler (some (.Name lT np2)) (some n) (b2::fe) kx] [] [] pos) (adl X.K D D2 i tb th kQ):=by
 intro aa s σ H R I h;obtain⟨Ex,h1,h2⟩:=h;refine wpAny_Try_except ?_;have iP:∀{Y:Cx}{pn:Γ}{f:Flow}{s':Shared},(∀{σ':L2.St}{H':Hp},Inv Y pn σ' H' s'->Inv X aa σ' H' s')->SP Y pn R f s'->SP X aa R f s':=λ{Y pn f s'}k q=>by
  cases f with
  |next=>obtain⟨σ',H',J,z⟩:=q;exact⟨σ',H',k J,z⟩
  |brk=>obtain⟨σ',H',J,z⟩:=q;exact⟨σ',H',k J,z⟩
  |cont=>obtain⟨σ',H',J,z⟩:=q;exact⟨σ',H',k J,z⟩
  |ret u=>obtain⟨v,σ',H',J,z⟩:=q;exact⟨v,σ',H',k J,z⟩
 refine wpAny_mono (hb (X.pn++aa) _ Ex ?_ [] s σ H R I.tryc h1) (λf s1 q=>?_) λ_ _ z=>z
 rotate_left
 .have q':=iP (λJ=>J.untry) q;cases f with
  |next=>exact wpAny_execs_nil q'
  |brk=>exact q'
  |cont=>exact q'
  |ret u=>exact q'
 intro dq σ1 H1 s1 a C' H' s' B d J F ex;have J0:Inv X aa σ1 H1 s1:=J.untry;obtain⟨C,rfl,k⟩:=h2 C' d σ1 H' ex;have F0:Fly X.prog X.w X.stack H1 s1 a (.ref C) H' s' B d:=F;have fl0:uF B (X.env::X.outer) a (.ref C) d .none s'.heap:=by rw[<- bj];exact F0.fl
 show wpAny _ _ (noteFrame (.ref a) X.env) _ _ _;refine Kz (outer:=X.outer) (L:=X.env.locals) (I.ok.frames.trans (by rw[bj])) dA fl0 λh₄ iE sm₄=>?_;refine V9 iE λh₅ qr sm₅=>?_;have J5:Inv X aa σ1 H' { s' with heap:=h₅ }:=J0.flown F0 qr.1 (sm₄.trans sm₅);obtain⟨oe,vs,he,dL,_,hd⟩:=qr.first;refine wpAny_handleBy_cons (codeAny_handlers_test ?_) (by intro q;cases q);refine ou (X:=X.marked a (λ_ _=>False)) J5.marked hgD hmD ?_ bz;rcases k with k|k
 case' inl =>
  obtain⟨qS,k⟩:=k;refine uY (K:=X.K) J5.kIn qD kP he dL qS ?_;show codeAny _ _ _ _ _;refine codeAny_handlers_suite_as ?_;have hz:=hh
 case' inr =>
  obtain⟨qN,qS,k⟩:=k;refine uY (K:=X.K) (b:=false) J5.kIn qD kP he dL qN ?_;show wpAny _ _ (handleBy _ _ _) _ _ _;refine wpAny_handleBy_cons (codeAny_handlers_test ?_) (by intro q;cases q);refine ou (X:=X.marked a (λ_ _=>False)) J5.marked oB om ?_ pf;refine uY (K:=X.K) J5.kIn qD2 l9 he dL qS ?_;show codeAny _ _ _ _ _;refine codeAny_handlers_suite_as ?_;have hz:=hh2
 all_goals
  refine V9 qr λh₆ fl₆ sm₆=>?_;have J6:Inv X aa σ1 H' { s' with heap:=h₆ }:=J0.flown F0 fl₆.1 ((sm₄.trans sm₅).trans sm₆);obtain⟨oe6,vs6,lv,kH,hda,pj⟩:=fl₆.first;have na:H' a=none:=by
   cases q:H' a with
   |none=>rfl
   |some u =>
    obtain⟨o',e'⟩:=(F0.hok a u q).there;have y:=F0.trk q e';rw[F0.fl.2.1]at y;cases y
  have ns:X.s₀.heap.get? a=none:=by
   cases q:X.s₀.heap.get? a with
   |none=>rfl
   |some o =>
    obtain⟨⟨u,z⟩,_⟩:=J0.old hex q;rw[F0.new]at z;cases z
  have nL:a≠X.env.locals:=λz=>by
   obtain⟨m,⟨o,es,ep,e,dd,_⟩,_⟩:=J6.loc;rw[<- z]at e;have e':h₆.get? a=some o:=e;rw[lv]at e';cases e';rw[pj]at dd;cases dd
  have nC:∀x c,X.env.cells.lookup x=some c->c≠a:=λx c e z=>by
   obtain⟨v,o,e',dd⟩:=J6.cell x c e;rw[z]at e';have e2:h₆.get? a=some o:=e';rw[lv]at e2;cases e2;rw[pj]at dd;cases dd
  have nP:∀p∈X.pn++aa,p.1≠a:=λp hp z=>by
   have:=(J0.pin p hp).1;rw[z,F0.new]at this;cases this
  have okx:eX X.prog X.w (upd H' a (XO a C d)) h₆ a (XO a C d):=⟨⟨oe6,lv,kH,hda,vs6,pj⟩,⟨oe6,lv⟩,λg1 g2 ⟨o,e1,e2⟩ kk=>⟨o,kk o e1,e2⟩⟩;have J7:Inv X aa σ1 (upd H' a (XO a C d)) { s' with heap:=h₆ }:=J6.track na ns nL nC nP okx;refine qZ (X:=X.marked a (λ_ _=>False)) J7.marked hN hi (.inl gN) (v:=.ref a) rfl (λs8 J8=>?_) (.inr gN);have J8':Inv X aa (σ1.set i (some (.ref a))) (upd H' a (XO a C d)) s8:=J8.unmarked I.ok;refine wpAny_mono (hz a _ aa s8 _ _ _ J8'.marked (k a na)) (λf s9 q=>?_) λ_ _ z=>z;cases f with
  |next =>
   obtain⟨σ',H2,J9,z⟩:=q;exact(J9.unmarked I.ok).unname hN hi gN λi4 iS=>⟨_,_,iS,z⟩
  |brk =>
   obtain⟨σ',H2,J9,z⟩:=q;exact(J9.unmarked I.ok).unname hN hi gN λi4 iS=>⟨_,_,iS,z⟩
  |cont =>
   obtain⟨σ',H2,J9,z⟩:=q;exact(J9.unmarked I.ok).unname hN hi gN λi4 iS=>⟨_,_,iS,z⟩
  |ret u =>
   obtain⟨v,σ',H2,J9,rv,z⟩:=q;exact(J9.unmarked I.ok).unname hN hi gN λi4 iS=>⟨v,_,_,iS,rv,z⟩
end
section
variable{X:Cx}
def afS(C:Addr)(KS:Θ)(S:SX)(a:RE)(r:RA):RS:=λE o=>a o λx=>match frz x with|.ins C' ks ts=>(C'=C/\ks=KS)/\r o λas=>S (.ins C' ks ts::as) (λ_=>E.nx o) E.xc|_=>False
def ZW{ag pos ay:Pos}{f:Str}{o e:Expr}{es:List Expr}{ro:RE}{r:RA}{k:Nat}{fa C:Addr}{ps KS:Θ}{S:SX}{pl:Sem Bool}(he:QE X o ro)(c:Cls X.K C)(hm:Meth X.K C f fa)(G:zI X (CXO X.prog X.w) k fa ps (spX X.K S))(ha:QA X (e::es) r)(hr:dh k X.A:=by exact dh.mono (by assumption) (by decide))(hk:f∉KS:=by decide +kernel)
 (bj:zb X e es:=by rfl)(aE:zg X pos es:=by rfl)
 (ht:eval (.Call (.Attribute o f ag) (e::es) [] pos) X.env=(do
   let ov <- eval o X.env
   standAt ag.atName
   let(f,first) <- holding [ov] (getMethod ov f pl)
   callWith pos f first (backTo pos (starEach (e::es) X.env)) (backToKw pos (keywordEach [] X.env))):=by rfl)
 (hs:swapsWith (.Call (.Attribute o f ag) (e::es) [] pos) none ay.line X.env=pure false:=by rfl) :
  QS X (.Expr (.Call (.Attribute o f ag) (e::es) [] pos) ay) (afS C KS S ro r):=(iY (Xx (pl:=pl) he c hm G hr Z_ ha bj aE ht) hs).imp λD σ H ⟨own,o,E,h,hr,L⟩=>tQ.mk h hr λH1 v x q E1 r1=>by
 revert r1 q
 generalize frz x=t;intro q r1;cases t<;>try exact q.elim
 obtain⟨a,dx,xs,rfl,e,d,l,r⟩:=r1.insI;obtain⟨⟨rfl,rfl⟩,q⟩:=q;refine⟨a,dx,_,rfl,(cI e).2,Ga hk,tQA.mk (h.same E1) q λH2 vs as q _ E2 r2=>?_⟩;refine⟨_,_,_,.cons ((r1.same (bN E2)).same cC) (r2.same cC),q,λH' v x q S n=>?_,λH' C d ks us cy z S e r'=>L.xc H' C d ks us cy z (cC.trans (E1.trans (E2.trans S))) e r'⟩;exact L.nx own H' σ _ q (bN (E1.trans (E2.trans S))) (h.same (E1.trans (E2.trans S)))
end
def dI.or{P:Program}{w:World}{K:Frag}{mg:Str->Ψ}{base:Heap}{X:CXT}{k:Nat}{f:Addr}{fd:FuncData}{ps:Θ}{S1 S2:SX}(h1:dI P w K mg base X k f fd ps (spX K S1))(h2:dI P w K mg base X k f fd ps (spX K S2)):dI P w K mg base X k f fd ps (spX K λts R Z=>S1 ts R Z\/S2 ts R Z):=by
 refine⟨λvs H Q E h=>?_,λA outer s H args us vs Q E hr e0 hb r h=>?_⟩
 .obtain⟨ts,R,Z,r,h|h,k⟩:=h
  .exact h1.len vs H Q E ⟨ts,R,Z,r,h,k⟩
  .exact h2.len vs H Q E ⟨ts,R,Z,r,h,k⟩
 .obtain⟨ts,R,Z,r',h|h,k⟩:=h
  .exact h1.run A outer s H args us vs Q E hr e0 hb r ⟨ts,R,Z,r',h,k⟩
  .exact h2.run A outer s H args us vs Q E hr e0 hb r ⟨ts,R,Z,r',h,k⟩
section
variable{X:Cx}
def akU:zi
 |.int i,.int j,q=>(Bm i/\Bm j)/\q (.fz (.int (i*j)))
 |_,_,_=>False
def mX:GO X (binaryOp .Mult) akU:=aec.imp λx y H Q hP=>by
 obtain⟨S,t,u,R,_,hx,hy,hg,k⟩:=hP;cases hx<;>try exact hg.elim
 cases hy<;>try exact hg.elim
 exact⟨_,_,rfl,rfl,hg.1,k H _ _ hg.2 (.refl _) (NR.fz (.int _))⟩
def tL{i:Int}{n:Nat}(h:i.natAbs<=10^n)(hn:n<=100000):Bm i:=by
 have a:10^n<=(2^4)^n:=Zwy (by decide) n;rw[<- Nat.pow_mul]at a;exact Y3 (aL h a) (Nat.pow_lt_pow_right (by decide) (by lia))
end
def Tri(h:Heap)(p:Addr)(a b c:Value):Prop:=h.get? p=some { cls:=.type "tuple",data:=.seq #[a,b,c] }
def Apt(z TI TO j1 j2 j3 l1 l2 l3:Addr):Prop:=[z,TO,j1,j2,j3].Nodup/\∀b∈[TI,l1,l2,l3],b∉[z,TO,j1,j2,j3]
section
variable{P:Program}{w:World}{A:Around}{E:Β}{s:Shared}
def put3{p:Addr}{a b c x:Value}{k:Nat}{Q:Unit->Shared->Prop}(e:Tri s.heap p a b c)
 (q:∀g,g.get? p=some { cls:=.type "tuple",data:=.seq ((#[a,b,c] : Array Value).setIfInBounds k x) }->Heap.SameBut p s.heap g->Q () { s with heap:=g }):wpAny (model P w) A (updateSeq p (·.setIfInBounds k x)) Q E s:=by
 refine wpAny_updateSeq e rfl (q _ ?_ (Heap.SameBut.update ..));rw[Heap.get?_update_self _ e rfl];simp[Obj.mapSeq]
def Wg{z TI TO j1 j2 j3 l1 l2 l3:Addr}{k:Nat}{us vs ws:Array Value}{a b c:Value}{Q:Ψ->Shared->Prop}(D:Apt z TI TO j1 j2 j3 l1 l2 l3)
 (ez:IsZip s.heap z TI TO .none)(eI:Tri s.heap TI (.ref j1) (.ref j2) (.ref j3))(eO:Tri s.heap TO a b c)(i1:s.heap.IsListIter j1 l1 k)(i2:s.heap.IsListIter j2 l2 k)(i3:s.heap.IsListIter j3 l3 k)(m1:s.heap.IsList l1 us)
 (q0:us[k]?=none->A.handled=none/\∀g,(∀d o,d∉[z,j1]->s.heap.get? d=some o->g.get? d=some o)->Q none { s with heap:=g })
 (q1:∀x,us[k]?=some x->∃y t,(s.heap.IsList l2 vs/\s.heap.IsList l3 ws/\vs[k]?=some y/\ws[k]?=some t)/\∀g,IsZip g z TI TO (rawInt s.heap.objs.size)->Tri g TO x y t->g.IsListIter j1 l1 (k+1)->g.IsListIter j2 l2 (k+1)->g.IsListIter j3 l3 (k+1)->Tri g s.heap.objs.size x y t ->
   (∀d o,d∉[z,TO,j1,j2,j3]->s.heap.get? d=some o->g.get? d=some o)->Q (some (.ref s.heap.objs.size)) { s with heap:=g }):wpAny (model P w) A (pyNext (.ref z)) Q E s:=by
 obtain⟨nd,ap⟩:=D;simp only[Zys,YU,VZ,or_false,not_or,List.nodup_nil,and_true,not_false_eq_true]at nd;obtain⟨⟨z1,z2,z3,z4⟩,⟨o1,o2,o3⟩,⟨n12,n13⟩,n23⟩:=nd;have a1:=ap l1 (by simp);have a2:=ap l2 (by simp);have a3:=ap l3 (by simp);simp only[YU,VZ,or_false,not_or]at a1 a2 a3;have ty:s.TypeIs (.ref z) "zip":=⟨_,ez,rfl⟩;unfold pyNext;refine ZU (wpAny_attempt (wpAny_callSpecial?_slot (name:=Str.ofString "__next__") ty F.slot_zip_next (wpAny_call_entry F.slot_zip_next ty F.entry_zip_next ?_ (F.args_zip_next_1 _))));show wpAny _ _ (field (.ref z) 2 >>= _) _ _ _;refine ZU (wpAny_field ez rfl (x:=.bool false) rfl ?_);show wpAny _ _ (field (.ref z) 3 >>= _) _ _ _;refine ZU (wpAny_field ez rfl (x:=.ref TI) rfl (ZU (wpAny_seqItems eI rfl ?_)));show wpAny _ _ (Builtin.SmallTypes.ownedTupleIsFree (.ref z) >>= _) _ _ _;refine ZU ?_;unfold Builtin.SmallTypes.ownedTupleIsFree;refine ZU (wpAny_field ez rfl (x:=.none) rfl (ZT ?_));simp only[if_true];refine ZU (wpAny_rule (ZU (wpAny_field ez rfl (x:=.ref TO) rfl ?_)));refine ZU (wpAny_setField_rec ez (by simp) λg1 e1 s1=>?_)
 replace e1:IsZip g1 z TI TO .ellipsis:=e1
 have J1:=i1.extBut s1.extBut (Ne.symm z2);have M1:=m1.extBut s1.extBut a1.1;refine ZU ?_;simp only[List.zipIdx_cons,List.zipIdx_nil,List.forIn_cons,List.forIn_nil];refine ZU (ZU (wpAny_onRaise ?_));show wpAny _ _ (Builtin.SmallTypes.nextOf (.ref j1) >>= _) _ _ _;cases hx:us[k]? with
 |none =>
  obtain⟨hh,q⟩:=q0 hx;refine ZU (wpAny_nextOf_list_end hh J1 M1 hx λg2 e s2 he=>?_);obtain⟨oe,ho,hc⟩:=he;have e2:IsZip g2 z TI TO .ellipsis:=s2 _ _ z2 e1;have ne:e≠z:=λh=>by subst h;rw[e2]at ho;cases ho;simp at hc
  refine wpAny_setField_rec e2 (by simp) λg3 _ s3=>ZU (wpAny_isInstance (T:="StopIteration") (b:=true) ⟨oe,s3.extBut _ _ ne ho,hc⟩ isSubtype_stop (ZT (q g3 λd o hd h=>?_)));simp only[YU,VZ,or_false,not_or]at hd;exact s3.extBut _ _ hd.1 (s2 _ _ hd.2 (s1.extBut _ _ hd.1 h))
 |some x =>
  obtain⟨y,t,⟨m2,m3,hy,ht⟩,q⟩:=q1 x hx;refine ZU (wpAny_nextOf_list_item J1 M1 hx λg2 f1 s2=>ZT ?_);have O2:Tri g2 TO a b c:=s2.extBut _ _ o1 (s1.extBut _ _ (Ne.symm z1) eO);refine ZU (wpAny_seqItems O2 rfl (ZU (put3 O2 λg3 O3 s3=>?_)))
  replace O3:Tri g3 TO x b c:=O3
  refine ZU (wpAny_letGo (ZT (ZU (ZU (wpAny_onRaise ?_)))));show wpAny _ _ (Builtin.SmallTypes.nextOf (.ref j2) >>= _) _ _ _;refine ZU (wpAny_nextOf_list_item (((i2.extBut s1.extBut (Ne.symm z3)).extBut s2.extBut (Ne.symm n12)).extBut s3.extBut (Ne.symm o2)) (((m2.extBut s1.extBut a2.1).extBut s2.extBut a2.2.2.1).extBut s3.extBut a2.2.1) hy λg4 f2 s4=>ZT ?_);have O4:Tri g4 TO x b c:=s4.extBut _ _ o2 O3;refine ZU (wpAny_seqItems O4 rfl (ZU (put3 O4 λg5 O5 s5=>?_)))
  replace O5:Tri g5 TO x y c:=O5
  refine ZU (wpAny_letGo (ZT (ZU (ZU (wpAny_onRaise ?_)))));show wpAny _ _ (Builtin.SmallTypes.nextOf (.ref j3) >>= _) _ _ _;have k5:∀d o,d∉[z,TO,j1,j2]->s.heap.get? d=some o->g5.get? d=some o:=λd o hd e=>by
   simp only[YU,VZ,or_false,not_or]at hd;obtain⟨d1,d2,d3,d4⟩:=hd;exact s5.extBut _ _ d2 (s4.extBut _ _ d4 (s3.extBut _ _ d2 (s2.extBut _ _ d3 (s1.extBut _ _ d1 e))))
  refine ZU (wpAny_nextOf_list_item (i3.at λo e=>k5 j3 o (by simp[Ne.symm z4,Ne.symm o3,Ne.symm n13,Ne.symm n23]) e) (m3.at λo e=>k5 l3 o (by simp[a3]) e) ht λg6 f3 s6=>ZT ?_);have O6:Tri g6 TO x y c:=s6.extBut _ _ o3 O5;refine ZU (wpAny_seqItems O6 rfl (ZU (put3 O6 λg7 O7 s7=>?_)))
  replace O7:Tri g7 TO x y t:=O7
  refine ZU (wpAny_letGo (ZT (ZT (ZU (wpAny_seqItems O7 rfl (ZU (wpAny_newTuple ?_)))))));have sz:g7.objs.size=s.heap.objs.size:=by rw[s7.1,s6.1,s5.1,s4.1,s3.1,s2.1,s1.1]
  have e7:IsZip g7 z TI TO .ellipsis:=s7.extBut _ _ z1 (s6.extBut _ _ z4 (s5.extBut _ _ z1 (s4.extBut _ _ z3 (s3.extBut _ _ z1 (s2.extBut _ _ z2 e1)))));have F1:=((((f1.extBut s3.extBut (Ne.symm o1)).extBut s4.extBut n12).extBut s5.extBut (Ne.symm o1)).extBut s6.extBut n13).extBut s7.extBut (Ne.symm o1);have F2:=((f2.extBut s5.extBut (Ne.symm o2)).extBut s6.extBut n23).extBut s7.extBut (Ne.symm o2);have F3:=f3.extBut s7.extBut (Ne.symm o3);have zl:z<g7.objs.size:=aK e7;show wpAny _ _ (Builtin.SmallTypes.ownedTupleHandOut (.ref z) (.ref g7.objs.size) >>= _) _ _ _;refine ZU ?_;unfold Builtin.SmallTypes.ownedTupleHandOut;have e8:IsZip (g7.push { cls:=.type "tuple",data:=.seq #[x,y,t] }) z TI TO .ellipsis:=aH _ e7;refine ZU (wpAny_setField_rec e8 (by simp) λg8 e8 s8=>?_)
  replace e8:IsZip g8 z TI TO (rawInt g7.objs.size):=e8
  refine wpAny_setField_rec e8 (by simp) λg9 e9 s9=>?_
  replace e9:IsZip g9 z TI TO (rawInt g7.objs.size):=e9
  have up:∀d o,d≠z->g7.get? d=some o->g9.get? d=some o:=λd o n e=>s9.extBut _ _ n (s8.extBut _ _ n (aH _ e));have T9:Tri g9 g7.objs.size x y t:=s9.extBut _ _ (VW zl) (s8.extBut _ _ (VW zl) (aW _ rfl));rw[sz]at e9 T9;refine ZT ⟨_,rfl,ZT ?_⟩;show Q (some (.ref g7.objs.size)) _;rw[sz];refine q g9 e9 (up _ _ (Ne.symm z1) O7) (F1.at λo e=>up _ o (Ne.symm z2) e) (F2.at λo e=>up _ o (Ne.symm z3) e) (F3.at λo e=>up _ o (Ne.symm z4) e) T9 λd o hd e=>?_;simp only[YU,VZ,or_false,not_or]at hd;exact up d o hd.1 (s7.extBut _ _ hd.2.1 (s6.extBut _ _ hd.2.2.2.2 (k5 d o (by simp[hd]) e)))
abbrev it0(l:Addr):Obj:={ cls:=.type "list_iterator",data:=.fields #[.ref l,.int 0 0] }
abbrev zh1(h:Heap)(l1:Addr):Heap:=h.push (it0 l1)
abbrev zh2(h:Heap)(l1 l2:Addr):Heap:=(zh1 h l1).push (it0 l2)
abbrev zh3(h:Heap)(l1 l2 l3:Addr):Heap:=(zh2 h l1 l2).push (it0 l3)
abbrev zh4(h:Heap)(l1 l2 l3:Addr):Heap:=(zh3 h l1 l2 l3).push { cls:=.type "tuple",data:=.seq #[.ref h.objs.size,.ref (zh1 h l1).objs.size,.ref (zh2 h l1 l2).objs.size] }
abbrev zh5(h:Heap)(l1 l2 l3:Addr):Heap:=(zh4 h l1 l2 l3).push { cls:=.type "tuple",data:=.seq #[.none,.none,.none] }
abbrev zh6(h:Heap)(l1 l2 l3:Addr):Heap:=(zh5 h l1 l2 l3).push { cls:=.type "zip",data:=.fields #[.none,.bool false,.bool false,.ref (zh3 h l1 l2 l3).objs.size,.ref (zh4 h l1 l2 l3).objs.size] }
def agh(l1 l2 l3:Addr)(us vs ws:Array Value):Meets (Builtin.«zip.__new__» ⟨[.type "zip",.ref l1,.ref l2,.ref l3],[]⟩) λ_ R s=>s.heap.IsList l1 us/\s.heap.IsList l2 vs/\s.heap.IsList l3 ws/\R (.ok (.ret (.ref (zh5 s.heap l1 l2 l3).objs.size))) { s with heap:=zh6 s.heap l1 l2 l3 } :=
 .of_wp λprog w A R s h=>by
  obtain⟨hp,g,d,tk,os⟩:=s;obtain⟨m1,m2,m3,h⟩:=h;have hsub:=sub_zip;have M1:Heap.IsList (Shared.heap ⟨hp,g,d,tk,os⟩) l1 us:=m1;have M2:Heap.IsList (Shared.heap ⟨hp.push (it0 l1),g,d,tk,os⟩) l2 vs:=Heap.IsList.push m2 _;have M3:Heap.IsList (Shared.heap ⟨(hp.push (it0 l1)).push (it0 l2),g,d,tk,os⟩) l3 ws:=Heap.IsList.push (Heap.IsList.push m3 _) _
  wp_walk using wpAny_pyIter_list M1,wpAny_pyIter_list M2,wpAny_pyIter_list M3
  exact⟨_,rfl,h⟩
def abE(a b c d:Value):argsOk "object.__init__" ⟨[a,b,c,d],[]⟩:=by
 unfold argsOk;rw[signature?_of (id:="object.__init__") (n:=['_','_','t','i','n','i','_','_']) (o:=['t','c','e','j','b','o']) (by kernel_rfl) F.owner_object];kernel_rfl
def Tq{l1 l2 l3:Addr}{us vs ws:Array Value}{Q:Β}(m1:s.heap.IsList l1 us)(m2:s.heap.IsList l2 vs)(m3:s.heap.IsList l3 ws)
 (q:∀g n,n=s.heap.objs.size->IsZip g (n+5) (n+3) (n+4) .none->Tri g (n+3) (.ref n) (.ref (n+1)) (.ref (n+2))->Tri g (n+4) .none .none .none->g.IsListIter n l1 0->g.IsListIter (n+1) l2 0->g.IsListIter (n+2) l3 0 ->
   (∀d o,s.heap.get? d=some o->g.get? d=some o)->Q (.ref (n+5)) { s with heap:=g }):wpAny (model P w) A (call (.type "zip") [.ref l1,.ref l2,.ref l3]) Q E s:=by
 refine callType_new F.called_zip (by decide) (by kernel_rfl) (by kernel_rfl) (λobj=>abE obj _ _ _) F.entry_zip_new (agh l1 l2 l3 us vs ws) ⟨m1,m2,m3,?_⟩;have n1:(zh1 s.heap l1).objs.size=s.heap.objs.size+1:=Heap.size_push ..;have n2:(zh2 s.heap l1 l2).objs.size=s.heap.objs.size+2:=by rw[Heap.size_push,n1]
 have n3:(zh3 s.heap l1 l2 l3).objs.size=s.heap.objs.size+3:=by rw[Heap.size_push,n2]
 have n4:(zh4 s.heap l1 l2 l3).objs.size=s.heap.objs.size+4:=by rw[Heap.size_push,n3]
 have n5:(zh5 s.heap l1 l2 l3).objs.size=s.heap.objs.size+5:=by rw[Heap.size_push,n4]
 have g6:(zh6 s.heap l1 l2 l3).get? (zh5 s.heap l1 l2 l3).objs.size=some _:=aW _ rfl;have g5:(zh6 s.heap l1 l2 l3).get? (zh4 s.heap l1 l2 l3).objs.size=some _:=aH _ (aW _ rfl);have g4:(zh6 s.heap l1 l2 l3).get? (zh3 s.heap l1 l2 l3).objs.size=some _:=aH _ (aH _ (aW _ rfl));have up:∀{d o},(zh3 s.heap l1 l2 l3).get? d=some o->(zh6 s.heap l1 l2 l3).get? d=some o:=λe=>aH _ (aH _ (aH _ e));have g3:(zh6 s.heap l1 l2 l3).get? (zh2 s.heap l1 l2).objs.size=some (it0 l3):=up (aW _ rfl);have g2:(zh6 s.heap l1 l2 l3).get? (zh1 s.heap l1).objs.size=some (it0 l2):=up (aH _ (aW _ rfl));have g1:(zh6 s.heap l1 l2 l3).get? s.heap.objs.size=some (it0 l1):=up (aH _ (aH _ (aW _ rfl)));show _/\_;rw[n3,n4,n5]at g6;rw[n1,n2,n3]at g4;rw[n4]at g5;rw[n2]at g3;rw[n1]at g2;rw[n5];exact⟨⟨_,g6,rfl⟩,q _ _ rfl g6 g4 g5 ⟨_,g1,rfl,rfl⟩ ⟨_,g2,rfl,rfl⟩ ⟨_,g3,rfl,rfl⟩ λd o e=>up (aH _ (aH _ (aH _ e)))⟩
end
def agU(a b c:Addr):It:=⟨λi H=>∃xs ys zs,H a=some (.lst xs)/\H b=some (.lst ys)/\H c=some (.lst zs)/\i<xs.length/\i<ys.length/\i<zs.length,λi H v H'=>∃xs ys zs x y z t,H a=some (.lst xs)/\H b=some (.lst ys)/\H c=some (.lst zs)/\xs[i]?=some x/\ys[i]?=some y/\zs[i]?=some z/\H t=none/\v=.ref t/\H'=upd H t (.tup [x,y,z]),λi H=>∃xs,H a=some (.lst xs)/\xs.length<=i⟩
def Zst(z TI TO j1 j2 j3 l1 l2 l3:Addr)(i:Nat)(h:Heap):Prop:=IsZip h z TI TO .none/\Tri h TI (.ref j1) (.ref j2) (.ref j3)/\(∃p q r,Tri h TO p q r)/\h.IsListIter j1 l1 i/\h.IsListIter j2 l2 i/\h.IsListIter j3 l3 i
def Zst.obj{z TI TO j1 j2 j3 l1 l2 l3:Addr}{i:Nat}{h:Heap}(s:Zst z TI TO j1 j2 j3 l1 l2 l3 i h):∀b∈[z,TI,TO,j1,j2,j3],∃o,h.get? b=some o/\∀v,o.data≠.cell v:=by
 obtain⟨s1,s2,⟨p,q,r,s3⟩,⟨o4,s4,_,d4⟩,⟨o5,s5,_,d5⟩,o6,s6,_,d6⟩:=s;intro b hb;simp only[YU,VZ,or_false]at hb;rcases hb with rfl|rfl|rfl|rfl|rfl|rfl
 .exact⟨_,s1,λv e=>by cases e⟩
 .exact⟨_,s2,λv e=>by cases e⟩
 .exact⟨_,s3,λv e=>by cases e⟩
 .exact⟨_,s4,λv e=>by rw[d4]at e;cases e⟩
 .exact⟨_,s5,λv e=>by rw[d5]at e;cases e⟩
 .exact⟨_,s6,λv e=>by rw[d6]at e;cases e⟩
def Xu{P:Program}{w:World}{K:Frag}{bE:List Expr}{x1}{pos:Pos}(z TI TO j1 j2 j3 l1 l2 l3:Addr)(D:Apt z TI TO j1 j2 j3 l1 l2 l3) :
  Turn P w K (.Tuple bE x1 pos) (agU l1 l2 l3) [z,TI,TO,j1,j2,j3] z (Zst z TI TO j1 j2 j3 l1 l2 l3) where
 mem:=by simp
 obj:=λ_ _=>Zst.obj
 keep:=λi h h' ⟨s1,s2,⟨p,q,r,s3⟩,s4,s5,s6⟩ k=>⟨k z (by simp) _ s1,k TI (by simp) _ s2,⟨p,q,r,k TO (by simp) _ s3⟩,fZ s4 (k j1 (by simp)),fZ s5 (k j2 (by simp)),fZ s6 (k j3 (by simp))⟩
 item:=by
  intro X hP hw hK hc i aa s σ H E I hf st hg;subst hP hw hK;have ob:=st.obj;obtain⟨s1,s2,⟨p,q,r,s3⟩,s4,s5,s6⟩:=st;obtain⟨xs,ys,zs,ha,hb,cm,km,mI,ki⟩:=hg;obtain⟨_,dm,n1,eT,le1,g1⟩:=I.lstM ha;obtain⟨_,f8,n2,i5,kX,g2⟩:=I.lstM hb;obtain⟨_,m4,n3,rv3,le3,g3⟩:=I.lstM cm;have ex:xs[i]?=some xs[i]:=aj km;have ey:ys[i]?=some ys[i]:=aj mI;have et:zs[i]?=some zs[i]:=aj ki;obtain⟨u,hu,ru⟩:=yq eT ex;obtain⟨v,hv,rv⟩:=yq i5 ey;obtain⟨t,ht,rt⟩:=yq rv3 et;refine Wg D s1 s2 s3 s4 s5 s6 (us:=dm.toArray) (vs:=f8.toArray) (ws:=m4.toArray) ⟨_,g1,rfl,n1,rfl⟩ (λz=>by simp[hu]at z) λx hx=>⟨v,t,⟨⟨_,g2,rfl,n2,rfl⟩,⟨_,g3,rfl,n3,rfl⟩,by simpa using hv,by simpa using ht⟩,λh' a1 a2 a3 a4 a5 a6 a7=>⟨_,rfl,?_⟩⟩;obtain rfl:u=x:=by simpa[hu]using hx
  refine wpAny_letOwnedTupleGo_zip a1 λh2 fA sb=>?_;have I1:=I.laid (a:=s.heap.objs.size) (o:=.tup [xs[i],ys[i],zs[i]]) (h':=s.heap.push { cls:=.type "tuple",data:=.seq #[u,v,t] }) (t':=s.toks) (λb q z=>aH _ z) (aG _)
   ⟨(by show 3<=sizeLine;decide),[u,v,t],.cons ru (.cons rv (.cons rt .nil)),_,aW _ rfl,rfl,_,rfl⟩
  have gX:∀b∈[z,TI,TO,j1,j2,j3],upd H s.heap.objs.size (.tup [xs[i],ys[i],zs[i]]) b=none:=λb hb=>by
   obtain⟨o,e,_⟩:=ob b hb;exact(bO (aQ (aK e))).trans (hf b hb).1
  have I2:=I1.turnedL (ch:=[z,TO,j1,j2,j3]) (h':=h2) (t':=s.toks) (λb ob hb e=>by
   refine(sb.2 b λy=>hb (by simp[y])).trans ?_;by_cases hs:b=s.heap.objs.size
   .subst hs;have e2:=aW s.heap (o:={ cls:=.type "tuple",data:=.seq #[u,v,t] }) rfl;have e:(s.heap.push { cls:=.type "tuple",data:=.seq #[u,v,t] }).get? s.heap.objs.size=some ob:=e;rw[e2]at e;cases e;exact a6
   .exact a7 b _ hb (DG e hs)) λb hb=>by
    have cx:b∈[z,TI,TO,j1,j2,j3]:=by
     simp only[YU]at hb ⊢;exact hb.imp id .inr
    exact⟨gX b cx,(hf b cx).2⟩
  have mv:∀d o,d≠z->h'.get? d=some o->h2.get? d=some o:=λd o n e=>(sb.2 d n).trans e;obtain⟨nd,ap⟩:=D;have ap1:=ap TI (by simp);simp only[Zys,YU,VZ,or_false,not_or]at nd;exact⟨.ref _,_,I2,rfl,⟨xs,ys,zs,_,_,_,_,ha,hb,cm,ex,ey,et,I.fresh,rfl,rfl⟩,⟨fA,mv _ _ (λy=>ap1 (by simp[y])) (a7 _ _ ap1 s2),⟨_,_,_,mv _ _ (Ne.symm nd.1.1) a2⟩,fZ a3 λo e=>mv _ _ (Ne.symm nd.1.2.1) e,fZ a4 λo e=>mv _ _ (Ne.symm nd.1.2.2.1) e,fZ a5 λo e=>mv _ _ (Ne.symm nd.1.2.2.2) e⟩,gX⟩
 done:=by
  intro X hP hw hK hc i aa s σ H E I hf st hg;subst hP hw hK;obtain⟨s1,s2,⟨p,q,r,s3⟩,s4,s5,s6⟩:=st;obtain⟨xs,ha,lt⟩:=hg;obtain⟨_,dm,n1,eT,le1,g1⟩:=I.lstM ha;refine Wg D s1 s2 s3 s4 s5 s6 (us:=dm.toArray) (vs:=#[]) (ws:=#[]) ⟨_,g1,rfl,n1,rfl⟩ (λ_=>⟨I.ok.hd hc,λh' k=>⟨rfl,I.turnedL (t':=s.toks) k λb hb=>hf b ?_⟩⟩) λx hx=>?_
  .simp only[YU,VZ,or_false]at hb ⊢;rcases hb with h|h<;>simp[h]
  .have:dm.toArray[i]?=none:=by simp;lia
   rw[this]at hx;cases hx
 self:=λ_ _ _ _ _ ⟨s1,_⟩ h=>wpAny_pyIter_zip s1 h
section
variable{X:Cx}
def apt(n l1 l2 l3:Nat)(h1:l1<n)(h2:l2<n)(h3:l3<n):Apt (n+5) (n+3) (n+4) n (n+1) (n+2) l1 l2 l3:=by
 refine⟨?_,λb hb=>?_⟩
 .simp only[Zys,YU,VZ,or_false,not_or,List.nodup_nil,and_true,not_false_eq_true];refine⟨⟨?_,?_,?_,?_⟩,⟨?_,?_,?_⟩,⟨?_,?_⟩,?_⟩<;>first|exact aQ (by lia)|exact VW (by lia)
 .simp only[YU,VZ,or_false,not_or]at hb ⊢;rcases hb with rfl|rfl|rfl|rfl<;>refine⟨?_,?_,?_,?_,?_⟩<;>first|exact aQ (by omega)|exact VW (by lia)
def aeM(ta:TA):TI:=λσ H R=>ta σ H λvs H1=>∃a b c xs ys zs,vs=[.ref a,.ref b,.ref c]/\H1 a=some (.lst xs)/\H1 b=some (.lst ys)/\H1 c=some (.lst zs)/\R (agU a b c) H1
def ac9{a b c:Expr}{ta:TA}{bE:List Expr}{x1}{p pos ax:Pos}(hg:Gl X "zip")(hm:X.mg "zip"=none)(ha:PA X [a,b,c] ta)(hs:starEach [a,b,c] X.env=[(false,eval a X.env),(false,eval b X.env),(false,eval c X.env)]:=by rfl)(dv:starEach [b,c] X.env=[(false,eval b X.env),(false,eval c X.env)]:=by rfl) :
  PI X (.Tuple bE x1 ax) (.Call (.Name "zip" p) [a,b,c] [] pos) (aeM ta):=by
 intro aa s σ H R I h;refine Call_ (xg I hg hm boot_zip (PyProof.Rows.callWith_type1 (thn (ha pos aa s σ H _ I h) λus s1 hP=>?_) (by rw[hs,dv]) (by rw[dv];rfl)));obtain⟨vs,H1,I1,r1,q1⟩:=hP;obtain⟨l1,l2,l3,xs,ys,zs,e,h1,h2,h3,q⟩:=q1;subst e;obtain⟨u,v,t,rfl,ru,rv,rt⟩ : ∃u v t,us=[u,v,t]/\RelV (.ref l1) u/\RelV (.ref l2) v/\RelV (.ref l3) t:=by
  cases r1 with|cons a r=>cases r with|cons b r=>cases r with|cons c r=>cases r;exact⟨_,_,_,rfl,a,b,c⟩
 cases ru;cases rv;cases rt;obtain⟨_,dm,n1,eT,le1,g1⟩:=I1.lstM h1;obtain⟨_,f8,n2,i5,kX,g2⟩:=I1.lstM h2;obtain⟨_,m4,n3,rv3,le3,g3⟩:=I1.lstM h3;have z1:=aK g1;have z2:=aK g2;have z3:=aK g3;refine Tq (us:=dm.toArray) (vs:=f8.toArray) (ws:=m4.toArray) ⟨_,g1,rfl,n1,rfl⟩ ⟨_,g2,rfl,n2,rfl⟩ ⟨_,g3,rfl,n3,rfl⟩ λh' n en a1 a2 a3 a4 a5 a6 a7=>?_;refine wpAny_pyIter_zip a1 ?_;refine⟨_,[n+5,n+3,n+4,n,n+1,n+2],_,agU l1 l2 l3,H1,rfl,I1.kept (t':=s1.toks) λb ob e=>a7 b ob e,Xu _ _ _ _ _ _ l1 l2 l3 (apt _ _ _ _ (en ▸ z1) (en ▸ z2) (en ▸ z3)),⟨a1,a2,⟨_,_,_,a3⟩,a4,a5,a6⟩,λb hb=>?_,q⟩;have cx:s1.heap.objs.size<=b:=by
  simp only[YU,VZ,or_false]at hb;rw[<- en];have go:∀n b:Nat,(b=n+5\/b=n+3\/b=n+4\/b=n\/b=n+1\/b=n+2)->n<=b:=by lia
  exact go n b hb
 exact I1.fpOk cx (I1.hok.fresh cx)
end
def U9{ta:TA}{g:TG}{tb:TS}{D:Ends}{σ:L2.St}{H:Hp}(h:ta σ H λvs H1=>∃a b c xs ys zs,vs=[.ref a,.ref b,.ref c]/\H1 a=some (.lst xs)/\H1 b=some (.lst ys)/\H1 c=some (.lst zs)/\xs.length=ys.length/\xs.length=zs.length/\∃J:Nat->L2.St->Hp->Prop,J 0 σ H1 /\
   (∀k σ' H',J k σ' H'->H' a=some (.lst xs)/\H' b=some (.lst ys)/\H' c=some (.lst zs)) /\
   (∀k x y z σ' H' t,xs[k]?=some x->ys[k]?=some y->zs[k]?=some z->J k σ' H'->H' t=none->g (.ref t) σ' (upd H' t (.tup [x,y,z])) λσ2 H2=>tb { D with nx:=J (k+1),ct:=J (k+1),bk:=D.nx } σ2 H2) /\
   ∀σ' H',J xs.length σ' H'->D.nx σ' H'):aiP (aeM (tMA ta)) g tb D σ H:=by
 refine⟨_,h,?_⟩;rintro vs H1 ⟨a,b,c,xs,ys,zs,rfl,hx,hy,hz,hl,k8,J,j0,kp,step,aS⟩;refine⟨a,b,c,xs,ys,zs,rfl,hx,hy,hz,λk m σ' H'=>k<=xs.length/\m=xs.length-k/\J k σ' H',⟨_,aZ _,rfl,j0⟩,?_⟩;rintro k m σ' H' ⟨hk,rfl,j⟩;obtain⟨p9,cx,cm⟩:=kp k σ' H' j;by_cases e:k=xs.length
 .subst e;exact .inl ⟨⟨xs,p9,aG _⟩,aS σ' H' j⟩
 .have eL:k<xs.length:=by exact XX hk e
  refine .inr ⟨⟨xs,ys,zs,p9,cx,cm,eL,by exact aR eL (WG hl),by exact aR eL (WG k8)⟩,J (k+1),λσ3 H3 z=>⟨xs.length-(k+1),by lia,by exact eL,rfl,z⟩,?_⟩;rintro v H'' ⟨eS,ja,zs',x,y,z,t,e1,e2,e3,e4,e5,e6,e7,rfl,rfl⟩;rw[p9]at e1;rw[cx]at e2;rw[cm]at e3;cases e1;cases e2;cases e3;exact step k x y z σ' H' t e4 e5 e6 j e7
def SR.add2{K:Frag}{own:zC}{H H1:Hp}{σ:L2.St}{o:List OT}(h:SR K own H σ o){i:Nat}{tss:List (List T)}(e:slot o i=.l2 tss){l c:Addr}{bs:Φ}{xs:Ε}{ts:List T}(eσ:σ[i]?=some (some (.ref l)))(eo:own i=l::bs)(nd:(l::bs).Nodup)(ln:bs.length=tss.length)
 (r:∀(i:Nat)b ts,bs[i]?=some b->tss[i]?=some ts->∃xs,H b=some (.lst xs)/\bV K (hd (Ow own) H) xs ts)(E:Same H H1)(nc:H c=none)(ec:H1 c=some (.lst xs))(rc:bV K (hd (λb=>Ow own b\/b∈[c]) H1) xs ts) :
  SR K (own1 own i (l::(bs++[c]))) (upd H1 l (.lst ((bs++[c]).map V.ref))) σ (o.set i (.l2 (tss++[ts])))/\Same (hd (Ow own) H) (hd (Ow (own1 own i (l::(bs++[c])))) (upd H1 l (.lst ((bs++[c]).map V.ref)))):=by
 have hi:i<o.length:=(ao.mp (ig e (by intro z;cases z))).1;have lo:l∈own i:=by rw[eo];simp
 have ia:∀j,c∉own j:=λj z=>(h.sole ⟨j,z⟩).ne nc;have Ow':∀b,Ow (own1 own i (l::(bs++[c]))) b->Ow own b\/b=c:=λb z=>by
  rcases z.of1 with z|z
  .exact .inl z
  .rcases YU.mp z with z|z
   .exact .inl ⟨i,by rw[z];exact lo⟩
   .rcases Y1.mp z with z|z
    .exact .inl ⟨i,by rw[eo];exact aJ _ z⟩
    .exact .inr (YR.mp z)
 have le:∀{H0:Hp},Same H0 H1->(∀b,b=c->H0 b=none)->Same (hd (Ow own) H0) (hd (Ow (own1 own i (l::(bs++[c])))) (upd H1 l (.lst ((bs++[c]).map V.ref)))):=λ{H0}E0 n0 b u q=>by
  obtain⟨nb,q⟩:=cI q;have n1:¬Ow (own1 own i (l::(bs++[c]))) b:=λz=>(Ow' b z).elim nb λy=>by rw[n0 b y]at q;cases q
  rw[cL n1,bO λz=>nb ⟨i,by rw[z];exact lo⟩];exact E0 _ _ q
 have mS:=le E λb z=>z ▸ nc;have lc:l≠c:=λz=>ia i (z ▸ lo);refine⟨⟨by rw[WH,h.len],λj y ey=>?_,λj hj a ha=>?_,λj k a e1 e2=>?_⟩,mS⟩
 .by_cases z:j=i
  .subst z;rw[VT hi]at ey;cases ey;rw[iR,eσ];refine⟨l,bs++[c],rfl,rfl,?_,bY,by simp[ln],λk b us eb et=>?_⟩
   .rw[Zys]at nd ⊢;refine⟨λz=>?_,?_⟩
    .rcases Y1.mp z with z|z
     .exact nd.1 z
     .exact lc (YR.mp z)
    .refine List.nodup_append.mpr ⟨nd.2,by simp,λa ha b hb z=>?_⟩;rw[YR.mp hb]at z;exact ia j (by rw[eo,<- z];exact aJ _ ha)
   .by_cases kb:k<bs.length
    .rw[aF kb]at eb;rw[aF (ln ▸ kb)]at et;obtain⟨ys,q,ry⟩:=r k b us eb et;have bl:b≠l:=λz=>(List.nodup_cons.mp nd).1 (z ▸ aC eb);exact⟨ys,(bO bl).trans (E _ _ q),ry.same mS⟩
    .have kk:k=bs.length:=by
      have:=(ao.mp eb).1;rw[aA,List.length_singleton]at this;lia
     subst kk;rw[aD (aG _),JU]at eb;rw[ln,aD (aG _),JU]at et;cases eb;cases et;refine⟨xs,(bO (Ne.symm lc)).trans ec,rc.same λb u q=>?_⟩;obtain⟨nb,q⟩:=cI q;rw[cL λz=>nb ((Ow' b z).imp id λy=>by simp[y]),bO λz=>nb (.inl ⟨j,by rw[z];exact lo⟩)];exact q
  .rw[VY (Ne.symm z)]at ey;rw[dX z];exact((h.sl j y ey).same mS E).off λb hb u q=>(bO λy=>z (h.dis j i b hb (by rw[y];exact lo))).trans q
 .rw[WH]at hj;rw[dX (by lia)]at ha;obtain⟨ys,q⟩:=h.out j hj a ha;exact⟨ys,(bO λy=>by have:=h.dis j i a ha (by rw[y];exact lo);lia).trans (E _ _ q)⟩
 .have go:∀(j k:Nat)(a:Addr),k≠i->a∈own1 own i (l::(bs++[c])) i->a∉own k:=λj k a hk e1 e2=>by
   rw[iR]at e1;rcases YU.mp e1 with z|z
   .exact hk (h.dis k i a e2 (by rw[z];exact lo))
   .rcases Y1.mp z with z|z
    .exact hk (h.dis k i a e2 (by rw[eo];exact aJ _ z))
    .exact ia k (by rw[<- YR.mp z];exact e2)
  by_cases z:j=i<;>by_cases y:k=i
  .rw[z,y]
  .rw[dX y]at e2;rw[z]at e1;exact(go j k a y e1 e2).elim
  .rw[dX z]at e1;rw[y]at e2;exact(go k j a z e2 e1).elim
  .rw[dX z]at e1;rw[dX y]at e2;exact h.dis j k a e1 e2
section
variable{X:Cx}{e:Expr}{re:RE}{pos:Pos}
def add2:List (List T)->OT->(OT->Prop)->Prop
 |tss,.l1 ts,q=>tss.length<sizeLine/\q (.l2 (tss++[ts]))
 |_,_,_=>False
def aev(i:Nat)(a:RE):RS:=λE o=>match slot o i with|.l2 tss=>a o λx=>add2 tss x λy=>E.nx (o.set i y)|_=>False
def ach(i:Nat){x:Str}{ag af p:Pos}(he:QE X e re)(hN:X.N[i]?=some x:=by rfl)(hv:pP X.env.scope x=true:=by rfl)(br:zk x:=by decide)(a8:zw x:=by decide)
 (hb:attributeBase (.Name x p) "append" X.env (eval (.Name x p) X.env)=eval (.Name x p) X.env:=by rfl)
 (hf:zo X af e:=by rfl)
 (hl:zD ag af:=by rfl)(bj:zb X e []:=by rfl)(hp:zg X af []:=by rfl)
 (hs:swapsWith (.Call (.Attribute (.Name x p) "append" ag) [e] [] af) none pos.line X.env=pure false:=by rfl) :
  QS X (.Expr (.Call (.Attribute (.Name x p) "append" ag) [e] [] af) pos) (aev i re):=(iY (N5 (pv i hN hv br a8) (cA he jf bj) hb hf hl bj hp) hs).imp λD σ H hP=>by
 obtain⟨own,o,E,h,hr,L⟩:=hP;unfold aev at hr;cases es:slot o i with
 |l2 tss =>
  rw[es]at hr;obtain⟨l,bs,e1,e3,nd,e4,ln,r⟩:=h.l2 es;refine⟨_,e1,l,_,rfl,e4,own,o,_,h,hr,λH1 v x q E1 n=>?_⟩;cases x with
  |l1 ts =>
   obtain⟨B,nb,c,xs,ev,rfl,e2,r2⟩:=n;cases ev;obtain⟨h',S⟩:=h.add2 es e1 e3 nd ln r E1 (nb c (by simp)) e2 r2;refine⟨.ref c,bs.map V.ref,rfl,E1 _ _ e4,by rw[ak,ln];exact q.1,?_⟩;rw[show bs.map V.ref++[V.ref c]=(bs++[c]).map V.ref by rw[bf];rfl];exact L.nx _ _ σ _ q.2 S h'
  |_=>exact q.elim
 |_=>rw[es]at hr;exact hr.elim
end
end L2
namespace Ac
def lw(t b:Int):Int×Int:=(t/(Int.gcd t b:Nat),b/(Int.gcd t b:Nat))
def aiq{t b:Int}(hb:0<b):(0:Int)<(Int.gcd t b:Nat):=by
 have:=Zyr t (show b≠0 by exact WU hb);lia
section
variable{κ:Type}[DecidableEq κ]
def look(acc:List (κ×Int))(r:κ):Int:=((acc.find? λg=>decide (g.1=r)).map (·.2)).getD 0
def put(acc:List (κ×Int))(r:κ)(y:Int):List (κ×Int):=if(acc.any λg=>decide (g.1=r))=true then acc.map (λg=>if g.1=r then(g.1,y)else g)else acc++[(r,y)]
def alJ(gs:List (κ×Int)):List (κ×Int):=gs.foldl (λa g=>put a g.1 (look a g.1+g.2)) []
def ways(gs:List (κ×Int))(S:Int):List (κ×Int×Int):=((alJ gs).filter λg=>decide (0<g.2)).map λg=>(g.1,lw g.2 S)
end
end Ac
namespace Rw
open Ac
def rep(r:List Int×Int):List Ξ:=r.1.map λt=>lw t r.2
def gcL(ts:List Int)(b:Int):Int:=ts.foldl (λc t=>((Int.gcd t c:Nat):Int)) b
theorem h_:∀{ts:List Int}{b:Int},0<b->0<gcL ts b
 |[],_,h=>h
 |t::ts,b,h=>h_ (ts:=ts) (aiq (t:=t) h)
theorem gY:∀{ts:List Int}{b:Int},gcL ts b ∣ b/\∀t∈ts,gcL ts b ∣ t
 |[],b=>⟨Int.dvd_refl b,by simp⟩
 |t::ts,b=>by
  obtain⟨h1,h2⟩:=gY (ts:=ts) (b:=((Int.gcd t b:Nat):Int));refine⟨Int.dvd_trans h1 (JS t b),λx hx=>?_⟩;rcases YU.mp hx with rfl|hx
  .exact Int.dvd_trans h1 (Int.gcd_dvd_left x b)
  .exact h2 x hx
def qe{ts:List Int}{b:Int}(h:0<b):gcL ts b<=b:=Int.le_of_dvd h gY.1
def jy(r:List Int×Int):List Int×Int:=(r.1.map λt=>t/gcL r.1 r.2,r.2/gcL r.1 r.2)
def j6(r:List Int×Int):(jy r).1.length=r.1.length:=by unfold jy;rw[ak]
def iT(r:List Int×Int)(c:Ξ):List Int×Int:=(r.1.map λt=>t*c.1,r.2*c.2)
def m6(r o:List Int×Int)(c:Ξ):List Int×Int :=
 (List.zipWith (λa b=>a*(o.2*c.2/((Int.gcd r.2 (o.2*c.2):Nat):Int))+b*(r.2/((Int.gcd r.2 (o.2*c.2):Nat):Int)*c.1)) r.1 o.1,r.2*(o.2*c.2/((Int.gcd r.2 (o.2*c.2):Nat):Int)))
structure Big(N:Nat)(r:List Int×Int):Prop where
 pos:0<r.2
 bot:r.2.natAbs<=N
 top:∀t∈r.1,t.natAbs<=N
def Big.le{N M:Nat}{r:List Int×Int}(h:Big N r)(hn:N<=M):Big M r:=⟨h.pos,aL h.bot hn,λt ht=>aL (h.top t ht) hn⟩
def R7{d t g x:Int}(h1:d ∣ t*x)(h2:d ∣ g*x):d ∣ ((Int.gcd t g:Nat):Int)*x:=by
 have h:=Int.dvd_coe_gcd h1 h2;rw[Int.gcd_mul_right]at h;rw[JP]at h;rcases Int.natAbs_eq x with e|e
 .rw[e];exact h
 .rw[e,Int.mul_neg];exact Int.dvd_neg.mpr h
theorem vK{d x:Int} : ∀{ts:List Int}{b:Int},d ∣ b*x->(∀t∈ts,d ∣ t*x)->d ∣ gcL ts b*x
 |[],_,h,_=>h
 |t::ts,b,h,k=>vK (ts:=ts) (R7 (k t aO) h) λu hu=>k u (aJ _ hu)
def Alk(r s:List Int×Int):Prop:=r.1.length=s.1.length/\∀(k:Nat)(a b:Int),r.1[k]?=some a->s.1[k]?=some b->a*s.2=b*r.2
def lV{r:List Int×Int}(h:0<r.2):gcL (jy r).1 (jy r).2=1:=by
 have g0:=h_ (ts:=r.1) h;obtain⟨d1,d2⟩:=gY (ts:=r.1) (b:=r.2);have p:0<(jy r).2:=Zyq h (XY g0) d1;have q0:=h_ (ts:=(jy r).1) p;obtain⟨e1,e2⟩:=gY (ts:=(jy r).1) (b:=(jy r).2);have cK:gcL (jy r).1 (jy r).2*gcL r.1 r.2 ∣ gcL r.1 r.2*1:=by
  refine vK ?_ λt ht=>?_
  .obtain⟨u,hu⟩:=e1;have hu:r.2/gcL r.1 r.2=gcL (jy r).1 (jy r).2*u:=hu;refine⟨u,?_⟩;rw[Tu,Int.mul_right_comm,<- hu,Int.ediv_mul_cancel d1]
  .obtain⟨u,hu⟩:=e2 (t/gcL r.1 r.2) (YV.mpr ⟨t,ht,rfl⟩);refine⟨u,?_⟩;rw[Tu,Int.mul_right_comm,<- hu,Int.ediv_mul_cancel (d2 t ht)]
 rw[Tu]at cK;have:=Int.le_of_dvd g0 cK;have:gcL (jy r).1 (jy r).2<=1:=by
  refine Int.le_of_mul_le_mul_right (a:=gcL r.1 r.2) ?_ g0;lia
 lia
def least{N:Nat}{r s:List Int×Int}(hr:0<r.2)(g:gcL r.1 r.2=1)(a:Alk r s)(h:Big N s):Big N r:=by
 have d:r.2 ∣ gcL r.1 r.2*s.2:=vK ⟨s.2,rfl⟩ λt ht=>by
  obtain⟨k,hk,rfl⟩:=List.mem_iff_getElem.mp ht;have hs:k<s.1.length:=by rw[<- a.1];exact hk
  rw[a.2 k _ _ (aj hk) (aj hs)];exact⟨_,Int.mul_comm _ _⟩
 rw[g,UH]at d;obtain⟨m,hm⟩:=d;have m0:0<m:=Zwx (by rw[<- hm];exact h.pos) hr;refine⟨hr,?_,λt ht=>?_⟩
 .have:=Int.le_of_dvd h.pos ⟨m,hm⟩;have:=h.bot;lia
 .obtain⟨k,hk,rfl⟩:=List.mem_iff_getElem.mp ht;have hs:k<s.1.length:=by rw[<- a.1];exact hk
  have e:=a.2 k _ _ (aj hk) (aj hs);rw[hm,Int.mul_comm r.2 m,<- Zxz]at e;have e:=Int.eq_of_mul_eq_mul_right (WU hr) e;have b:=h.top _ (aU hs);rw[<- e,VU]at b;exact aL (Nat.le_mul_of_pos_right _ (by omega)) b
def gr(N:Nat):Nat->Nat
 |0=>N
 |m+1=>2*(gr N m*gr N m)
def sg(f:Nat->Rat):Nat->Rat
 |0=>0
 |n+1=>sg f n+f n
def sz(f:Nat->Int):Nat->Int
 |0=>0
 |n+1=>sz f n+f n
theorem fJ(f g:Nat->Rat):∀n,sg (λj=>f j+g j) n=sg f n+sg g n
 |0=>by unfold sg;grind
 |n+1=>by unfold sg;rw[fJ f g n];grind
theorem eF(c:Rat)(f:Nat->Rat):∀n,sg (λj=>c*f j) n=c*sg f n
 |0=>by unfold sg;grind
 |n+1=>by unfold sg;rw[eF c f n];grind
theorem bU{f g:Nat->Rat} : ∀{n},(∀j,j<n->f j=g j)->sg f n=sg g n
 |0,_=>rfl
 |n+1,h=>by unfold sg;rw[bU λj hj=>h j (WV _ hj),h n (X0 _)]
theorem fu:∀n,sg (λ_=>0) n=0
 |0=>rfl
 |n+1=>by unfold sg;rw[fu n];grind
theorem fQ{v:Nat->Rat}{k:Nat} : ∀{n},sg (λj=>(if j=k then 1 else 0)*v j) n=if k<n then v k else 0
 |0=>by rw[ZZ (WZ _)];rfl
 |n+1=>by
  unfold sg;rw[fQ];by_cases h:k<n
  .rw[ZY h,ZZ (VW h),ZY (WV _ h)];grind
  .by_cases e:n=k
   .subst e;rw[ZZ h,ZY rfl,ZY (X0 _)];grind
   .rw[ZZ h,ZZ e,ZZ (by lia)];grind
theorem FQ(f:Nat->Nat->Rat)(m:Nat):∀n,sg (λk=>sg (λl=>f k l) m) n=sg (λl=>sg (λk=>f k l) n) m
 |0=>by
  show(0:Rat)=sg (λ_=>0) m;rw[fu]
 |n+1=>by
  show sg (λk=>sg (λl=>f k l) m) n+sg (λl=>f n l) m=sg (λl=>sg (λk=>f k l) n+f n l) m;rw[fJ,FQ f m n]
theorem OD(f:Nat->Int):∀n,((sz f n:Int):Rat)=sg (λk=>(f k:Rat)) n
 |0=>Q4
 |n+1=>by unfold sz sg;rw[Rat.intCast_add,OD f n]
theorem Ir{f:Nat->Int}{B:Nat} : ∀{n},(∀k,k<n->(f k).natAbs<=B)->(sz f n).natAbs<=n*B
 |0,_=>by unfold sz;simp
 |n+1,h=>by
  unfold sz;have:=Ir (n:=n) λk hk=>h k (WV _ hk);have:=h n (X0 _);rw[Nat.add_mul,Nat.one_mul];omega
theorem Zc(f g:Nat->Int):∀n,sz (λk=>f k-g k) n=sz f n-sz g n
 |0=>rfl
 |n+1=>by unfold sz;rw[Zc f g n];lia
theorem QV{f g:Nat->Int} : ∀{n},(∀j,j<n->f j=g j)->sz f n=sz g n
 |0,_=>rfl
 |n+1,h=>by unfold sz;rw[QV λj hj=>h j (WV _ hj),h n (X0 _)]
theorem QL{α:Type}(q:α->Bool):∀L:List α,(L.filter q).length+(L.filter λx=>!q x).length=L.length
 |[]=>rfl
 |x::L=>by
  have:=QL q L;rw[List.filter_cons,List.filter_cons];cases h:q x with
  |true=>rw[ZY rfl,ZZ (by simp),List.length_cons,List.length_cons];lia
  |false=>rw[ZZ (by simp),ZY (by simp),List.length_cons,List.length_cons];lia
theorem aa8{α:Type}(f:α->Nat)(n:Nat):∀(W:Nat)(L:List α),(∀x∈L,f x<W)->W*n<L.length->∃v,n<(L.filter λx=>f x==v).length
 |0,L,h,hl=>by
  cases L with
  |nil=>simp at hl
  |cons x L=>exact absurd (h x aO) (WZ _)
 |W+1,L,h,hl=>by
  by_cases e:n<(L.filter λx=>f x==W).length
  .exact⟨W,e⟩
  .have pl:=QL (λx=>f x==W) L;rw[Nat.add_mul,Nat.one_mul]at hl;obtain⟨v,hv⟩:=aa8 f n W (L.filter λx=>!(f x==W)) (λx hx=>by
    obtain⟨a,b⟩:=List.mem_filter.mp hx;have:=h x a;have ne:f x≠W:=λz=>by rw[z]at b;simp at b
    lia) (by omega)
   exact⟨v,aR hv (List.Sublist.length_le (List.Sublist.filter _ List.filter_sublist))⟩
theorem digits_inj{W:Nat}(hW:0<W):∀(n c d:Nat),c<W^n->d<W^n->(∀k,k<n->c/W^k%W=d/W^k%W)->c=d
 |0,c,d,hc,hd,_=>by
  rw[Nat.pow_zero]at hc hd;lia
 |n+1,c,d,hc,hd,h=>by
  have h0:=h 0 (UK _);rw[Nat.pow_zero,Nat.div_one,Nat.div_one]at h0;have e:=digits_inj hW n (c/W) (d/W) (Nat.div_lt_of_lt_mul (by rw[TH,<- Nat.pow_succ];exact hc)) (Nat.div_lt_of_lt_mul (by rw[TH,<- Nat.pow_succ];exact hd)) λk hk=>by
   have:=h (k+1) (Nat.succ_lt_succ hk);rw[Nat.div_div_eq_div_mul,Nat.div_div_eq_div_mul,<- Nat.pow_succ'];exact this
  rw[<- Nat.div_add_mod c W,<- Nat.div_add_mod d W,e,h0]
def Yg{p N:Nat}(hN:1<=N):(2*((p+1)*((2*(p+1)*N)^p*N))+1)^p<((2*(p+1)*N)^p+1)^(p+1):=by
 have w:2*((p+1)*((2*(p+1)*N)^p*N))+1<=2*(p+1)*N*((2*(p+1)*N)^p+1):=by
  have e:2*((p+1)*((2*(p+1)*N)^p*N))=2*(p+1)*N*(2*(p+1)*N)^p:=by ac_rfl
  have x1:1<=2*(p+1)*N:=VX (show 1<=2*(p+1)by lia) hN;rw[e];generalize 2*(p+1)*N=X at *;rw[Nat.mul_add,Nat.mul_one];exact Nat.add_le_add_left x1 _
 refine Y3 (Zwy w p) ?_;rw[Nat.mul_pow,Nat.pow_succ,TH];exact Nat.mul_lt_mul_of_pos_left (X0 _) (Nat.pow_pos (UK _))
def YT{p N:Nat}{C:Nat->Nat->Int}(hN:1<=N)(hC:∀k l,k<=p->l<p->(C k l).natAbs<=N) :
  ∃az:Nat->Int,(∃k,k<=p/\az k≠0)/\(∀k,(az k).natAbs<=(2*(p+1)*N)^p)/\∀l,l<p->sz (λk=>az k*C k l) (p+1)=0:=by
 have ps:=Yg (p:=p) hN;generalize hB:(2*(p+1)*N)^p=B at *;generalize hO:(p+1)*(B*N)=O at *;have rg:∀c k:Nat,c/(B+1)^k%(B+1)<=B:=λc k=>UV (Nat.mod_lt _ (UK _));have eb:∀l c,l<p->(sz (λk=>((c/(B+1)^k%(B+1):Nat):Int)*C k l) (p+1)).natAbs<=O:=λl c hl=>by
  rw[<- hO];refine Ir λk hk=>?_;rw[VU,XT];exact VX (rg c k) (hC k l (UV hk) hl)
 have all:∀q,q<=p->∃L:List Nat,L.Nodup/\(∀c∈L,c<(B+1)^(p+1))/\(∀l,l<q->∀c∈L,∀d∈L,sz (λk=>((c/(B+1)^k%(B+1):Nat):Int)*C k l) (p+1)=sz (λk=>((d/(B+1)^k%(B+1):Nat):Int)*C k l) (p+1))/\(2*O+1)^(p-q)<L.length:=by
  intro q
  induction q with
  |zero=>exact λ_=>⟨List.range ((B+1)^(p+1)),List.nodup_range,λc hc=>List.mem_range.mp hc,λl hl=>absurd hl (WZ _),by rw[WJ,Nat.sub_zero];exact ps⟩
  |succ q ih =>
   intro hq;obtain⟨L,nd,lt,eq,ln⟩:=ih (aL (Xs _) hq);have e1:(2*O+1)^(p-q)=(2*O+1)*(2*O+1)^(p-(q+1)):=by rw[<- Nat.pow_succ',show(p-(q+1)).succ=p-q by lia]
   rw[e1]at ln;obtain⟨v,hv⟩:=aa8 (λc=>(sz (λk=>((c/(B+1)^k%(B+1):Nat):Int)*C k q) (p+1)+O).toNat) _ _ L (λc _=>by
    have:=eb q c (aR (X0 _) hq);omega) ln
   refine⟨_,List.Pairwise.sublist List.filter_sublist nd,λc hc=>lt c (List.mem_filter.mp hc).1,λl hl c hc d hd=>?_,hv⟩;obtain⟨c1,c2⟩:=List.mem_filter.mp hc;obtain⟨d1,d2⟩:=List.mem_filter.mp hd;by_cases e:l<q
   .exact eq l e c c1 d d1
   .have e:l=q:=by lia
    subst e;have c2:=beq_iff_eq.mp c2;have d2:=beq_iff_eq.mp d2;have:=eb l c (aR hl hq);have:=eb l d (aR hl hq);omega
 obtain⟨L,nd,lt,eq,ln⟩:=all p (aG p);rw[JU,Nat.pow_zero]at ln
 match L,nd,lt,eq,ln with
 |c::d::L,nd,lt,eq,_ =>
  have ne:c≠d:=λz=>by
   rw[z]at nd;exact(List.nodup_cons.mp nd).1 aO
  refine⟨λk=>((c/(B+1)^k%(B+1):Nat):Int)-((d/(B+1)^k%(B+1):Nat):Int),?_,λk=>?_,λl hl=>?_⟩
  .by_cases h:∀k,k<p+1->c/(B+1)^k%(B+1)=d/(B+1)^k%(B+1)
   .exact absurd (digits_inj (UK B) (p+1) c d (lt c aO) (lt d (aJ _ aO)) h) ne
   .obtain⟨k,hk⟩:=Classical.not_forall.mp h;obtain⟨k1,k2⟩:=Classical.not_imp.mp hk;exact⟨k,by exact UV k1,λz=>k2 (by
     have z:((c/(B+1)^k%(B+1):Nat):Int)-((d/(B+1)^k%(B+1):Nat):Int)=0:=z;generalize c/(B+1)^k%(B+1)=x at *;generalize d/(B+1)^k%(B+1)=y at *;lia)⟩
  .have:=rg c k;have:=rg d k;show(((c/(B+1)^k%(B+1):Nat):Int)-((d/(B+1)^k%(B+1):Nat):Int)).natAbs<=B;omega
  .rw[QV (g:=λk=>((c/(B+1)^k%(B+1):Nat):Int)*C k l-((d/(B+1)^k%(B+1):Nat):Int)*C k l) λk _=>Int.sub_mul _ _ _,Zc,eq l hl c aO d (aJ _ aO)];exact Int.sub_self _
 |[_],_,_,_,ln=>exact absurd ln (by simp)
 |[],_,_,_,ln=>exact absurd ln (by simp)
structure gw(A:Nat->Nat->Int)(b:Nat->Int)(m wd:Nat)(R:Nat->Nat->Rat)(p:Nat)(pv s:Nat->Nat):Prop where
 pm:p<=m
 sm:∀i,i<m->s i<m
 pw:∀l,l<p->pv l<wd
 unit:∀i l,i<m->l<p->R i (pv l)=if i=l then 1 else 0
 dec:∀i j,i<m->j<wd->(A (s i) j:Rat)=(if i<p then 0 else(b (s i):Rat)*R i j)+sg (λl=>(A (s i) (pv l):Rat)*R l j) p
 ind:∀az:Nat->Rat,(∀j,j<wd->sg (λk=>az k*(A (s k) j:Rat)) p=0)->∀k,k<p->az k=0
section
variable{A:Nat->Nat->Int}{b:Nat->Int}{m wd p:Nat}{R:Nat->Nat->Rat}{pv s:Nat->Nat}
def gw.comb(h:gw A b m wd R p pv s)(az:Nat->Rat){j:Nat}(hj:j<wd):sg (λk=>az k*(A (s k) j:Rat)) p=sg (λl=>sg (λk=>az k*(A (s k) (pv l):Rat)) p*R l j) p:=by
 have pm:=h.pm;rw[bU (g:=λk=>sg (λl=>az k*(A (s k) (pv l):Rat)*R l j) p) λk hk=>?_]
 .rw[FQ];refine bU λl hl=>?_;rw[bU (g:=λk=>R l j*(az k*(A (s k) (pv l):Rat))) λk _=>Zzz _ _,eF,Zzz]
 .rw[h.dec k j (aR hk pm) hj,ZY hk,Zzy,<- eF];exact bU λl _=>(Rat.mul_assoc _ _ _).symm
def iW{x:Int}(h:x≠0):(x:Rat)≠0:=λz=>h (Rat.intCast_inj.mp (z.trans Rat.intCast_zero.symm))
def ajW{m N q:Nat}(hN:1<=N)(hq:q+1<=m):(2*(q+1)*N)^(q+1)<=(2*m*N)^m:=by
 have x:2*(q+1)*N<=2*m*N:=VX (by lia) (aG N);have y:1<=2*m*N:=VX (show 1<=2*m by lia) hN;exact aL (Zwy x _) (XU y hq)
def adV{m N q:Nat}(hN:1<=N)(hq:q+1<=m):(q+1)*((2*(q+1)*N)^q*N)<=(2*m*N)^m:=by
 refine aL ?_ (ajW hN hq);have e:(2*(q+1)*N)^(q+1)=2*((q+1)*((2*(q+1)*N)^q*N)):=by
  rw[Nat.pow_succ];ac_rfl
 lia
def gw.bound{N:Nat}(h:gw A b m wd R p pv s)(hN:1<=N)(hA:∀i j,i<m->j<wd->(A i j).natAbs<=N)(hb:∀i,i<m->0<b i/\(b i).natAbs<=N){i:Nat}(hi:i<m) :
    ∃(v:Nat->Int)(u:Int),u≠0/\u.natAbs<=(2*m*N)^m/\(∀j,j<wd->(v j).natAbs<=(2*m*N)^m)/\∀j,j<wd->R i j*(u:Rat)=(v j:Rat):=by
  have pm:=h.pm;by_cases ip:i<p
  . obtain⟨q,rfl⟩ : ∃q,p=q+1:=⟨p-1,by lia⟩
    obtain⟨az,⟨k0,k9,kc⟩,bl,zr⟩:=YT (p:=q) (C:=λk l=>A (s k) (if l<i then pv l else pv (l+1))) hN λk l hk hl=>by
      refine hA _ _ (h.sm k (by lia)) ?_;by_cases e:l<i
      . rw[ZY e];exact h.pw l (WV _ hl)
      . rw[ZZ e];exact h.pw (l+1) (Nat.succ_lt_succ hl)
    have cast:∀j,((sz (λk=>az k*A (s k) j) (q+1):Int):Rat)=sg (λk=>(az k:Rat)*(A (s k) j:Rat)) (q+1):=λj=>by
      rw[OD];exact bU λk _=>XV _ _
    have zl:∀l,l<q+1->l≠i->sz (λk=>az k*A (s k) (pv l)) (q+1)=0:=λl hl ne=>by
      by_cases e:l<i
      . have:=zr l (aR e (UV ip))
        rw[ZY e]at this;exact this
      . have:=zr (l-1) (by omega)
        rw[ZZ (by lia),show l-1+1=l by lia]at this;exact this
    have cK:∀j,j<wd->((sz (λk=>az k*A (s k) j) (q+1):Int):Rat)=((sz (λk=>az k*A (s k) (pv i)) (q+1):Int):Rat)*R i j:=λj hj=>by
      rw[cast,h.comb (λk=>(az k:Rat)) hj,bU (g:=λl=>(if l=i then 1 else 0)*(((sz (λk=>az k*A (s k) (pv i)) (q+1):Int):Rat)*R l j)) λl hl=>?_,fQ,ZY ip];rw[<- cast (pv l)];by_cases e:l=i
      . rw[ZY e,e,Rat.one_mul]
      . rw[ZZ e,zl l hl e,Q4];grind
    refine⟨λj=>sz (λk=>az k*A (s k) j) (q+1),sz (λk=>az k*A (s k) (pv i)) (q+1),λz=>?_,?_,λj hj=>?_,λj hj=>?_⟩
    . have:=h.ind (λk=>(az k:Rat)) (λj hj=>by
        rw[<- cast,cK j hj,z,Q4];grind) k0 (Y3 k9 (X0 _))
      exact iW kc this
    . exact aL (Ir λk hk=>by rw[VU];exact VX (bl k) (hA _ _ (h.sm k (aR hk pm)) (h.pw i ip))) (adV hN (by omega))
    . exact aL (Ir λk hk=>by rw[VU];exact VX (bl k) (hA _ _ (h.sm k (aR hk pm)) hj)) (adV hN (by omega))
    . rw[cK j hj,Zzz]
  . obtain⟨az,⟨k0,k9,kc⟩,bl,zr⟩:=YT (p:=p) (C:=λk l=>A (s (if k<p then k else i)) (pv l)) hN λk l hk hl=>by
      refine hA _ _ (h.sm _ ?_) (h.pw l hl);by_cases e:k<p
      . rw[ZY e];exact aR e pm
      . rw[ZZ e];exact hi
    have cast:∀j,((sz (λk=>az k*A (s (if k<p then k else i)) j) (p+1):Int):Rat)=sg (λk=>(az k:Rat)*(A (s k) j:Rat)) p+(az p:Rat)*(A (s i) j:Rat):=λj=>by
      rw[OD];show sg _ p+((az p*A (s (if p<p then p else i)) j:Int):Rat)=_;rw[ZZ (X2 _),XV,bU (g:=λk=>(az k:Rat)*(A (s k) j:Rat)) λk hk=>by rw[ZY hk,XV]]
    have cK:∀j,j<wd->((sz (λk=>az k*A (s (if k<p then k else i)) j) (p+1):Int):Rat)=((az p*b (s i):Int):Rat)*R i j:=λj hj=>by
      have e0:sg (λl=>sg (λk=>(az k:Rat)*(A (s k) (pv l):Rat)) p*R l j) p+(az p:Rat)*sg (λl=>(A (s i) (pv l):Rat)*R l j) p=0:=by
        rw[<- eF,<- fJ,bU (g:=λ_=>0) λl hl=>?_,fu];have:=cast (pv l);rw[zr l hl,Q4]at this
        calc _=(sg (λk=>(az k:Rat)*(A (s k) (pv l):Rat)) p+(az p:Rat)*(A (s i) (pv l):Rat))*R l j:=by grind
          _=0:=by rw[<- this];grind
      rw[cast,h.comb (λk=>(az k:Rat)) hj,h.dec i j hi hj,ZZ ip,XV]
      grind
    have bp:=hb _ (h.sm i hi);have lp:az p≠0:=λz=>by
      have kp:k0<p:=by
        by_cases e:k0=p
        . rw[e,z]at kc;exact absurd rfl kc
        . exact XX k9 e
      have:=h.ind (λk=>(az k:Rat)) (λj hj=>by
        have c:=cast j;rw[cK j hj,z,Zzx,Q4]at c
        grind) k0 kp
      exact iW kc this
    refine⟨λj=>sz (λk=>az k*A (s (if k<p then k else i)) j) (p+1),az p*b (s i),λz=>?_,?_,λj hj=>?_,λj hj=>?_⟩
    . rcases Int.mul_eq_zero.mp z with y|y
      . exact lp y
      . lia
    . rw[VU]
      refine aL (VX (bl p) bp.2) (aL ?_ (adV hN (show p+1<=m by lia)));exact Zxy _ (UK p)
    . exact aL (Ir λk hk=>by
        rw[VU];refine VX (bl k) (hA _ _ (h.sm _ ?_) hj);by_cases e:k<p
        . rw[ZY e];exact aR e pm
        . rw[ZZ e];exact hi) (adV hN (show p+1<=m by lia))
    . rw[cK j hj,Zzz]
def gw.congr(h:gw A b m wd R p pv s){R':Nat->Nat->Rat}(e:∀i j,i<m->R i j=R' i j):gw A b m wd R' p pv s:=by
 have pm:=h.pm;refine⟨h.pm,h.sm,h.pw,λi l hi hl=>by rw[<- e i _ hi];exact h.unit i l hi hl,λi j hi hj=>?_,h.ind⟩;rw[h.dec i j hi hj,e i j hi,bU λl hl=>by rw[e l j (aR hl pm)]]
def gw.zero(hb:∀i,i<m->0<b i):gw A b m wd (λi j=>(A i j:Rat)/(b i:Rat)) 0 pv id:=by
 refine⟨aZ _,λi hi=>hi,λl hl=>absurd hl (WZ _),λi l _ hl=>absurd hl (WZ _),λi j hi hj=>?_,λaz _ k hk=>absurd hk (WZ _)⟩;rw[ZZ (WZ _)];have:=iW (WU (hb i hi));show(A i j:Rat)=(b i:Rat)*((A i j:Rat)/(b i:Rat))+0
 grind
def sw(p q x:Nat):Nat:=if x=p then q else if x=q then p else x
def gw.swap(h:gw A b m wd R p pv s){q:Nat}(hp:p<=q)(hq:q<m){R':Nat->Nat->Rat}(hR:∀i j,i<m->j<wd->R' i j=R (sw p q i) j):gw A b m wd R' p pv (λi=>s (sw p q i)):=by
 have pm:=h.pm;have sl:∀l,l<p->sw p q l=l:=λl hl=>by unfold sw;rw[ZZ (aQ hl),ZZ (by lia)]
 have sm:∀i,i<m->sw p q i<m:=λi hi=>by
  unfold sw;split
  .exact hq
  .split<;>omega
 have sp:∀i,(sw p q i<p)↔i<p:=λi=>by
  unfold sw;split
  .lia
  .split<;>lia
 refine⟨pm,λi hi=>h.sm _ (sm i hi),h.pw,λi l hi hl=>?_,λi j hi hj=>?_,λaz hz=>?_⟩
 .rw[hR i _ hi (h.pw l hl),h.unit _ l (sm i hi) hl];by_cases e:i=l
  .rw[ZY e,e,ZY (sl l hl)]
  .rw[ZZ e,ZZ λz=>e ?_];have:i<p:=(sp i).mp (Y3 (WG z) hl);rw[<- z,sl i this]
 .rw[h.dec _ j (sm i hi) hj,hR i j hi hj]
  congr 1
  .by_cases e:i<p
   .rw[ZY e,ZY ((sp i).mpr e)]
   .rw[ZZ e,ZZ λz=>e ((sp i).mp z)]
  .exact bU λl hl=>by rw[hR l j (aR hl pm) hj,sl l hl]
 .exact h.ind az λj hj=>by
   rw[<- hz j hj];exact bU λk hk=>by rw[sl k hk]
def gw.pivot(h:gw A b m wd R p pv s)(hp:p<m)(hb:∀i,i<m->0<b i){c:Nat}(hc:c<wd)(h0:R p c≠0){R':Nat->Nat->Rat}(nN:∀j,j<wd->R' p j*R p c=R p j)(oz:∀i j,i<m->i≠p->j<wd->R' i j=R i j-R i c*R' p j) :
  gw A b m wd R' (p+1) (λl=>if l=p then c else pv l) s:=by
 have pm:=h.pm;have one:R' p c=1:=by
  have:=nN c hc
  grind
 have zp:∀l,l<p->R' p (pv l)=0:=λl hl=>by
  have:=nN (pv l) (h.pw l hl);rw[h.unit p l hp hl,ZZ (VW hl)]at this
  grind
 have pvl:∀l,l<p->(if l=p then c else pv l)=pv l:=λl hl=>ZZ (aQ hl);have old:∀i j,i<m->i≠p->j<wd->R i j=R' i j+R i c*R' p j:=λi j hi ne hj=>by rw[oz i j hi ne hj];grind
 have dec:∀i j,i<m->j<wd->(A (s i) j:Rat)=(if i<p+1 then 0 else(b (s i):Rat)*R' i j)+sg (λl=>(A (s i) (if l=p then c else pv l):Rat)*R' l j) (p+1):=λi j hi hj=>by
  have dj:=h.dec i j hi hj;have dc:=h.dec i c hi hc;have ej:sg (λl=>(A (s i) (pv l):Rat)*R l j) p=sg (λl=>(A (s i) (pv l):Rat)*R' l j) p+R' p j*sg (λl=>(A (s i) (pv l):Rat)*R l c) p:=by
   rw[<- eF,<- fJ];exact bU λl hl=>by rw[old l j (Ts hl hp) (aQ hl) hj];grind
  rw[ej]at dj;show _=_+(sg _ p+(A (s i) (if p=p then c else pv p):Rat)*R' p j);rw[ZY rfl,bU (g:=λl=>(A (s i) (pv l):Rat)*R' l j) λl hl=>by rw[pvl l hl]];by_cases e:i<p
  .rw[ZY (WV _ e)];rw[ZY e]at dj dc
   grind
  .rw[ZZ e]at dj dc;by_cases e2:i=p
   .rw[ZY (by lia)];subst e2;have:=nN j hj
    grind
   .rw[ZZ (by lia)];have:=old i j hi e2 hj
    grind
 refine⟨hp,h.sm,λl hl=>?_,λi l hi hl=>?_,dec,λaz hz=>?_⟩
 .by_cases e:l=p
  .show(if l=p then c else pv l)<wd;rw[ZY e];exact hc
  .show(if l=p then c else pv l)<wd;rw[ZZ e];exact h.pw l (XX (UV hl) e)
 .show R' i (if l=p then c else pv l)=_;by_cases e:l=p
  .rw[ZY e,e];by_cases ip:i=p
   .rw[ZY ip,ip];exact one
   .rw[ZZ ip,oz i c hi ip hc,one];grind
  .rw[ZZ e];have gS:l<p:=by exact XX (UV hl) e
   by_cases ip:i=p
   .rw[ip,zp l gS,ZZ (Ne.symm e)]
   .rw[oz i _ hi ip (h.pw l gS),zp l gS,h.unit i l hi gS];grind
 .have lp:az p=0:=by
   by_cases z:az p=0
   .exact z
   .exfalso

    have hj:∀j,j<wd->sg (λk=>az k*(A (s k) j:Rat)) p=-(az p*(A (s p) j:Rat)):=λj hj=>by
     have:sg (λk=>az k*(A (s k) j:Rat)) p+az p*(A (s p) j:Rat)=0:=hz j hj
     grind
    have cm:=h.comb az hc;rw[hj c hc,bU (g:=λl=>-(az p)*((A (s p) (pv l):Rat)*R l c)) λl hl=>by rw[hj _ (h.pw l hl)];grind,eF]at cm;have dc:=h.dec p c hp hc;rw[ZZ (X2 p)]at dc;have b0:=iW (WU (hb _ (h.sm p hp)));have:az p*((b (s p):Rat)*R p c)=0:=by rw[dc]at cm;grind
    grind
  intro k hk;by_cases e:k=p
  .rw[e];exact lp
  .refine h.ind az (λj hj=>?_) k (XX (UV hk) e);have:sg (λk=>az k*(A (s k) j:Rat)) p+az p*(A (s p) j:Rat)=0:=hz j hj;rw[lp]at this
   grind
end
def vr(r:List Int×Int)(j:Nat):Rat:=((r.1.getD j 0:Int):Rat)/(r.2:Rat)
def K1{f:Int->Int}(h0:f 0=0)(xs:List Int)(j:Nat):(xs.map f).getD j 0=f (xs.getD j 0):=by
 rw[au,au,aq];cases xs[j]? with
 |none=>exact h0.symm
 |some t=>rfl
def pK{r:List Int×Int}(h:0<r.2)(j:Nat):vr (jy r) j=vr r j:=by
 have g0:=h_ (ts:=r.1) h;obtain⟨d1,d2⟩:=gY (ts:=r.1) (b:=r.2);have e1:(jy r).1.getD j 0=r.1.getD j 0/gcL r.1 r.2:=K1 (f:=λt=>t/gcL r.1 r.2) (Int.zero_ediv _) r.1 j;have d3:gcL r.1 r.2 ∣ r.1.getD j 0:=by
  rw[au];cases e:r.1[j]? with
  |none=>exact⟨0,by rw[Int.mul_zero];rfl⟩
  |some t=>exact d2 t (aC e)
 have e2:(jy r).2=r.2/gcL r.1 r.2:=rfl;unfold vr;rw[e1,e2];generalize r.1.getD j 0=t at *;generalize gcL r.1 r.2=g at *;obtain⟨u,hu⟩:=d3;obtain⟨v,hv⟩:=d1;rw[hu,hv,Zzw _ (WU g0),Zzw _ (WU g0),XV,XV];have v0:v≠0:=λz=>by rw[hv,z,Int.mul_zero]at h;lia
 have:=iW v0;have:=iW (WU g0)
 grind
def jP{r:List Int×Int}{c:Ξ}(h:0<r.2)(hc:0<c.2)(j:Nat):vr (iT r c) j=vr r j*((c.1:Rat)/(c.2:Rat)):=by
 have e1:(iT r c).1.getD j 0=r.1.getD j 0*c.1:=K1 (f:=λt=>t*c.1) (Zzx _) r.1 j;have e2:(iT r c).2=r.2*c.2:=rfl;unfold vr;rw[e1,e2,XV,XV];have:=iW (WU h);have:=iW (WU hc)
 grind
def mU{r p:List Int×Int}{c:Ξ}(hr:0<r.2)(hp:0<p.2)(hc:0<c.2)(hl:r.1.length=p.1.length)(j:Nat):vr (m6 r p c) j=vr r j+((c.1:Rat)/(c.2:Rat))*vr p j:=by
 have hB:=XZ hp hc;have g0:=aiq (t:=r.2) hB;obtain⟨u,hu⟩:=Int.gcd_dvd_left r.2 (p.2*c.2);obtain⟨v,hv⟩:=JS r.2 (p.2*c.2);have es:m6 r p c=(List.zipWith (λx y=>x*v+y*(u*c.1)) r.1 p.1,r.2*v):=by
  unfold m6;generalize((Int.gcd r.2 (p.2*c.2):Nat):Int)=g at g0 hu hv ⊢;have e1:p.2*c.2/g=v:=by rw[hv,Zzw _ (WU g0)]
  have e2:r.2/g=u:=by
   conv=>lhs;rw[hu]
   exact Zzw _ (WU g0)
  rw[e1,e2]
 generalize((Int.gcd r.2 (p.2*c.2):Nat):Int)=g at g0 hu hv;have v0:0<v:=Zwx (by rw[<- hv];exact hB) g0;have ez:(List.zipWith (λx y=>x*v+y*(u*c.1)) r.1 p.1).getD j 0=r.1.getD j 0*v+p.1.getD j 0*(u*c.1):=by
  rw[au,au,au,Zyt];by_cases e:j<r.1.length
  .rw[aj e,aj (aR e (WG hl))];rfl
  .rw[aM (VS e),aM (by lia)];show(0:Int)=0*v+0*(u*c.1);rw[Zzx,Zzx];rfl
 rw[es];unfold vr;show((List.zipWith (λx y=>x*v+y*(u*c.1)) r.1 p.1).getD j 0:Rat)/((r.2*v:Int):Rat)=_;rw[ez];generalize r.1.getD j 0=x;generalize p.1.getD j 0=y;have hu':(r.2:Rat)=(g:Rat)*(u:Rat):=by rw[<- XV,<- hu]
 have nv:(p.2:Rat)*(c.2:Rat)=(g:Rat)*(v:Rat):=by rw[<- XV,<- XV,hv]
 have r0:=iW (WU hr);have p0:=iW (WU hp);have c0:=iW (WU hc);have q0:=iW (WU v0);have k0:=iW (WU g0);rw[Rat.intCast_add,XV,XV,XV,XV];generalize(r.2:Rat)=r2 at *;generalize(p.2:Rat)=p2 at *;generalize(c.2:Rat)=c2 at *;generalize(c.1:Rat)=c1 at *;generalize(g:Rat)=gg at *;generalize(u:Rat)=uu at *;generalize(v:Rat)=vv at *;generalize(x:Rat)=xx at *;generalize(y:Rat)=yy at *;have e1:(xx*vv+yy*(uu*c1))/(r2*vv)=xx/r2+yy*(uu*c1)/(r2*vv):=by grind
 have e2:yy*(uu*c1)/(r2*vv)=c1/c2*(yy/p2):=by
  have:uu*(c2*p2)=r2*vv:=by rw[hu',Zzz c2 p2,nv];grind
  grind
 rw[e1,e2]
def mK{M wd:Nat}{r:List Int×Int}(hr:0<r.2)(g:gcL r.1 r.2=1)(hw:r.1.length=wd){v:Nat->Int}{u:Int}(u0:u≠0)(ub:u.natAbs<=M)(vb:∀j,j<wd->(v j).natAbs<=M)(e:∀j,j<wd->vr r j*(u:Rat)=(v j:Rat)):Big M r:=by
 refine least (s:=((List.range wd).map λj=>v j*u.sign,u.natAbs)) hr g ⟨?_,λk a b ha hb=>?_⟩ ⟨?_,?_,λt ht=>?_⟩
 .show r.1.length=((List.range wd).map λj=>v j*u.sign).length;rw[hw,ak,WJ]
 .have kw:k<wd:=by rw[<- hw];exact(ao.mp ha).1
  have hb:((List.range wd).map λj=>v j*u.sign)[k]?=some b:=hb;rw[aq,VQ kw]at hb;cases hb;show a*((u.natAbs:Nat):Int)=v k*u.sign*r.2;have ek:=e k kw;unfold vr at ek;rw[au,ha]at ek;have ek:(a:Rat)/(r.2:Rat)*(u:Rat)=(v k:Rat):=ek;have r0:=iW (WU hr);have k2:a*u=v k*r.2:=by
   refine Rat.intCast_inj.mp ?_;rw[XV,XV]
   grind
  have k1:((u.natAbs:Nat):Int)=u*u.sign:=(Int.mul_sign_self u).symm;rw[k1,<- Zxz,k2];ac_rfl
 .show(0:Int)<(u.natAbs:Nat);lia
 .show(((u.natAbs:Nat):Int)).natAbs<=M;rw[XT];exact ub
 .obtain⟨j,hj,rfl⟩:=YV.mp ht;rw[VU,Int.natAbs_sign_of_ne_zero u0,Nat.mul_one];exact vb j (List.mem_range.mp hj)
end Rw
namespace K23
open PySem PyProof.Rows L2
abbrev zQ:Stmt:=top 10
abbrev gU:Str:="is_whole"
def R6:bK U6 fG (bF zQ):=fsc
abbrev Dh:Stmt:=top 11
abbrev j_:Str:="divisor"
def Vd:bK Ks cM (bF Dh):=fsc
abbrev Pg:Stmt:=top 15
abbrev rD:Str:="ratio"
def ZJ:bK N7 m_ (bF Pg):=fsc
abbrev zN:Stmt:=top 16
abbrev m5:Str:="is_ratio"
def Qu:bK zm jt (bF zN):=fsc
abbrev Ua:Stmt:=top 17
abbrev Nv:Str:="plus"
def acI:bK afI Ar (bF Ua):=fsc
abbrev PK:Stmt:=top 18
abbrev wY:Str:="minus"
def abF:bK adt pq (bF PK):=fsc
abbrev Pk:Stmt:=top 19
abbrev GP:Str:="times"
def aaT:bK adQ uP (bF Pk):=fsc
abbrev U8:Stmt:=top 20
abbrev Pr:Str:="over"
def acn:bK agy Av (bF U8):=fsc
abbrev Np:Stmt:=top 21
abbrev Aj:Str:="under"
def aaN:bK ac0 rH (bF Np):=fsc
abbrev FW:Stmt:=top 23
abbrev Bf:Str:="level"
def Za:bK Wc qY (bF FW):=fsc
abbrev Nk:Stmt:=top 24
abbrev GD:Str:="total"
def aa0:bK Ob v8 (bF Nk):=fsc
abbrev NQ:Stmt:=top 26
abbrev uc:Str:="fits"
def Vy:bK U3 oG (bF NQ):=fsc
abbrev lJ:Stmt:=top 27
abbrev iG:Str:="check_plan"
def yR:bK su fD (bF lJ):=fsc
abbrev zV:Stmt:=top 29
abbrev yx:Str:="lowest"
def Yj:bK Rn oK (bF zV):=fsc
abbrev pU:Stmt:=top 30
abbrev uq:Str:="row_times"
def Mi:bK xX lQ (bF pU):=fsc
abbrev sE:Stmt:=top 31
abbrev uJ:Str:="row_plus"
def Ei:bK zq mZ (bF sE):=fsc
abbrev uV:Stmt:=top 32
abbrev sJ:Str:="take_step"
def Ni:bK vU lH (bF uV):=fsc
abbrev vJ:Stmt:=top 33
abbrev oE:Str:="number_at"
def Pu:bK xH jF (bF vJ):=fsc
abbrev ju:Stmt:=top 34
abbrev nJ:Str:="fractions_of"
def Fy:bK jw iz (bF ju):=fsc
abbrev rO:Stmt:=top 35
abbrev qR:Str:="first_from"
def JR:bK Br jX (bF rO):=fsc
abbrev M6:Stmt:=top 36
abbrev zZ:Str:="go_on"
def abX:bK MF rM (bF M6):=fsc
abbrev xM:Stmt:=top 37
abbrev sX:Str:="begin_row"
def Ot:bK Eh lG (bF xM):=fsc
abbrev pB:Stmt:=top 38
abbrev nY:Str:="clear_column"
def Fo:bK wu iy (bF pB):=fsc
abbrev yC:Stmt:=top 39
abbrev zT:Str:="reduced"
def GX:bK Dw o7 (bF yC):=fsc
abbrev zM:Stmt:=top 41
abbrev w6:Str:="width_of"
def Qk:bK Tt nq (bF zM):=fsc
abbrev mO:Stmt:=top 42
abbrev oM:Str:="with_rights"
def GQ:bK qz je (bF mO):=fsc
abbrev p8:Stmt:=top 43
abbrev rW:Str:="begins_of"
def Ce:bK uN lY (bF p8):=fsc
abbrev C_:Stmt:=top 44
abbrev zA:Str:="odd_row"
def Ur:bK CV o8 (bF C_):=fsc
abbrev uK:Stmt:=top 45
abbrev tO:Str:="answer_of"
def M8:bK Eb lC (bF uK):=fsc
abbrev jW:Stmt:=top 46
abbrev oU:Str:="single_rows"
def Jh:bK jR jx (bF jW):=fsc
abbrev qI:Stmt:=top 47
abbrev lK:Str:="only_answer"
def Iw:bK yL gP (bF qI):=fsc
abbrev lO:Stmt:=top 49
abbrev j5:Str:="chosen_doors"
def E_:bK oY fY (bF lO):=fsc
abbrev wU:Stmt:=top 50
abbrev oA:Str:="left_rows"
def MP:bK Ed jE (bF wU):=fsc
abbrev u_:Stmt:=top 51
abbrev yt:Str:="turned"
def XR:bK xq oJ (bF u_):=fsc
abbrev iJ:Stmt:=top 52
abbrev jd:Str:="visits_from"
def lE:bK jM fK (bF iJ):=fsc
abbrev yj:Stmt:=top 55
abbrev pF:Str:="is_word"
def Td:bK DK kW (bF yj):=fsc
abbrev sU:Stmt:=top 57
abbrev mW:Str:="check_head"
def Kp:bK sI iC (bF sU):=fsc
abbrev lq:Stmt:=top 58
abbrev iu:Str:="check_room_name"
def zf:bK Bt dZ (bF lq):=fsc
abbrev oO:Stmt:=top 59
abbrev jZ:Str:="check_chance"
def Fq:bK Gp fX (bF oO):=fsc
abbrev mR:Stmt:=top 60
abbrev pL:Str:="check_pairs"
def Ia:bK qm ji (bF mR):=fsc
abbrev mQ:Stmt:=top 61
abbrev pN:Str:="joined_ways"
def Gz:bK yX jm (bF mQ):=fsc
abbrev qH:Stmt:=top 68
abbrev pJ:Str:="check_share"
def GK:bK JK iZ (bF qH):=fsc
abbrev um:Stmt:=top 69
abbrev qK:Str:="numbers_of"
def JX:bK tW jU (bF um):=fsc
abbrev nU:Stmt:=top 70
abbrev mJ:Str:="numbered_ways"
def Dm:bK ur gM (bF nU):=fsc
abbrev vA:Stmt:=top 71
abbrev sW:Str:="offers_of"
def Mj:bK DW lX (bF vA):=fsc
abbrev Tg:Stmt:=top 74
abbrev FJ:Str:="_law_cell"
def ab0:bK Uy yr (bF Tg):=fsc
abbrev Hw:Stmt:=top 75
abbrev gF:Str:="_law_stream"
def W7:bK Sv dY (bF Hw):=fsc
abbrev abm:Stmt:=top 76
abbrev Ny:Str:="_law_gcd"
def abA:bK aez xJ (bF abm):=fsc
abbrev GF:Stmt:=top 77
abbrev rJ:Str:="_law_ratio"
def XH:bK QX mq (bF GF):=fsc
abbrev vo:Stmt:=top 78
abbrev ug:Str:="_law_is_ratio"
def Lz:bK wQ lM (bF vo):=fsc
abbrev oF:Stmt:=top 79
abbrev qP:Str:="_law_are_ratios"
def JD:bK sy jN (bF oF):=fsc
abbrev s_same:Stmt:=top 80
abbrev Lw:Str:="_law_same"
def acw:bK afz Cd (bF s_same):=fsc
abbrev yw:Stmt:=top 81
abbrev G5:Str:="_law_names"
def aaR:bK sG vY (bF yw):=fsc
abbrev Lp:Stmt:=top 82
abbrev Jb:Str:="_law_share"
def aa4:bK Vr vM (bF Lp):=fsc
abbrev ZF:Stmt:=top 83
abbrev Um:Str:="_law_pay"
def ag3:bK aey Iv (bF ZF):=fsc
abbrev zL:Stmt:=top 84
abbrev Nh:Str:="_law_door"
def Nq:bK rR Bh (bF zL):=fsc
abbrev Gg:Stmt:=top 85
abbrev Il:Str:="_law_doors"
def Qx:bK O8 xu (bF Gg):=fsc
abbrev BJ:Stmt:=top 86
abbrev G4:Str:="_law_built"
def QM:bK BL wR (bF BJ):=fsc
abbrev M5:Stmt:=top 87
abbrev Lx:Str:="_law_hall"
def acZ:bK Ul Bu (bF M5):=fsc
abbrev Im:Stmt:=top 88
abbrev Dc:Str:="_law_chosen"
def Xj:bK RZ rF (bF Im):=fsc
abbrev U5:Stmt:=top 89
abbrev Ph:Str:="_law_size"
def adP:bK Tr BR (bF U5):=fsc
abbrev S_:Stmt:=top 90
abbrev Lk:Str:="_law_came"
def acX:bK aaW Cm (bF S_):=fsc
abbrev P0:Stmt:=top 91
abbrev G7:Str:="_law_right"
def abg:bK acg uO (bF P0):=fsc
abbrev aaw:Stmt:=top 92
abbrev Tc:Str:="_law_odd"
def ae6:bK aiE Jg (bF aaw):=fsc
abbrev Gu:Stmt:=top 93
abbrev Dg:Str:="_law_spoilt"
def W8:bK YQ rA (bF Gu):=fsc
abbrev CN:Stmt:=top 94
abbrev zy:Str:="_law_refused"
def I_:bK Kv o_ (bF CN):=fsc
abbrev w5:Stmt:=top 95
abbrev uo:Str:="_law_strangers"
def Oz:bK En lA (bF w5):=fsc
abbrev Wa:Stmt:=top 96
abbrev Ut:Str:="law"
def Mq:bK aki Ol (bF Wa):=fsc
abbrev vH:Stmt:=gA 62 0
abbrev Cj:Str:="__init__"
abbrev Bx:Str:="Door.__init__"
def Mx:bK vg jD (bF vH):=fsc
abbrev uL:Stmt:=gA 62 1
abbrev Ay:Str:="ways"
abbrev Ci:Str:="Door.ways"
def Ou:bK Sd lB (bF uL):=fsc
abbrev wH:Stmt:=gA 63 0
abbrev BP:Str:="__init__"
abbrev Bo:Str:="Sure.__init__"
def MN:bK vR lW (bF wH):=fsc
abbrev tZ:Stmt:=gA 64 0
abbrev yN:Str:="__init__"
abbrev yM:Str:="Mixed.__init__"
def Jr:bK tR gB (bF tZ):=fsc
abbrev wZ:Stmt:=gA 65 0
abbrev Ax:Str:="__init__"
abbrev Bv:Str:="Toss.__init__"
def Nm:bK DX lR (bF wZ):=fsc
abbrev pX:Stmt:=gA 66 0
abbrev Cq:Str:="__init__"
abbrev Cy:Str:="Even.__init__"
def Mp:bK vG lD (bF pX):=fsc
abbrev pR:Stmt:=gA 72 0
abbrev CJ:Str:="__init__"
abbrev z6:Str:="Hall.__init__"
def Nf:bK wW lU (bF pR):=fsc
abbrev uZ:Stmt:=gA 72 1
abbrev Ad:Str:="size"
abbrev Ao:Str:="Hall.size"
def LK:bK Q9 dJ (bF uZ):=fsc
abbrev iU:Stmt:=gA 72 4
abbrev kJ:Str:="check_room"
abbrev j8:Str:="Hall.check_room"
def oV:bK Bp cT (bF iU):=fsc
abbrev mY:Stmt:=gA 72 6
abbrev vD:Str:="offers"
abbrev xG:Str:="Hall.offers"
def Jm:bK qT d_ (bF mY):=fsc
abbrev qy:Stmt:=gA 7 0
abbrev vO:Str:="__init__"
abbrev xR:Str:="NoRoom.__init__"
def Jc:bK J_ jr (bF qy):=fsc
abbrev qF:Stmt:=gA 8 0
abbrev wL:Str:="__init__"
abbrev wI:Str:="NoPlan.__init__"
def Jq:bK Jy gK (bF qF):=fsc
structure Adr where
 HallError:Addr
 NoRoom:Addr
 NoPlan:Addr
 Door:Addr
 Sure:Addr
 Mixed:Addr
 Toss:Addr
 Even:Addr
 Hall:Addr
 NOUGHT:Addr
 ONE:Addr
 Door_init:Addr
 Door_ways:Addr
 Sure_init:Addr
 Mixed_init:Addr
 Toss_init:Addr
 Even_init:Addr
 Hall_init:Addr
 Hall_size:Addr
 Hall_check_room:Addr
 Hall_offers:Addr
 NoRoom_init:Addr
 NoPlan_init:Addr
structure Txt(K:Frag)(mg:Str->Ψ)(D:Adr):Prop where
 abR:mg "Door"=some (.ref D.Door)
 afD:mg "Even"=some (.ref D.Even)
 ag7:mg "Hall"=some (.ref D.Hall)
 Em:mg "HallError"=some (.ref D.HallError)
 Px:mg "Mixed"=some (.ref D.Mixed)
 i_:mg "NOUGHT"=some (.ref D.NOUGHT)
 Jf:mg "NoPlan"=some (.ref D.NoPlan)
 Rt:mg "NoRoom"=some (.ref D.NoRoom)
 yP:mg "ONE"=some (.ref D.ONE)
 afk:mg "Sure"=some (.ref D.Sure)
 agi:mg "Toss"=some (.ref D.Toss)
 aaz:mroIn K D.NoPlan (.type "BaseException")=some true
 Y9:mroIn K D.NoRoom (.type "BaseException")=some true
 aa9:typeIn K (.ref D.NoPlan)=some (.type "type")
 aaV:typeIn K (.ref D.NoRoom)=some (.type "type")
 o_NoPlan:mroIn K D.NoRoom (.ref D.NoPlan)=some false
 HY:∃u,mg "LONGEST_WORD"=some u/\RelV (.int 8) u
 gQ:∀H,SqT K H D.NOUGHT [.int 0,.int 1]
 qM:∀H,SqT K H D.ONE [.int 1,.int 1]
 abb:Cls K D.Door
 M_:Meth K D.Door "ways" D.Door_ways
 Kg:bZ K D.Door "leads"
 N6:bZ K D.Door "name"
 Eo:bZ K D.Door "numbers"
 Fj:bZ K D.Door "offered"
 QB:bZ K D.Door "pay"
 JM:bZ K D.Door "share"
 adZ:Mk K D.Sure D.Sure_init
 abD:Cls K D.Sure
 Mv:Meth K D.Sure "ways" D.Door_ways
 JL:bZ K D.Sure "leads"
 Ox:bZ K D.Sure "name"
 Fw:bZ K D.Sure "numbers"
 Eu:bZ K D.Sure "offered"
 Qj:bZ K D.Sure "pay"
 JN:bZ K D.Sure "share"
 Zw:Mk K D.Mixed D.Mixed_init
 Ym:Cls K D.Mixed
 Ju:Meth K D.Mixed "ways" D.Door_ways
 Hh:bZ K D.Mixed "leads"
 Jv:bZ K D.Mixed "name"
 CT:bZ K D.Mixed "numbers"
 DN:bZ K D.Mixed "offered"
 Mu:bZ K D.Mixed "pay"
 Ip:bZ K D.Mixed "share"
 ab1:Mk K D.Toss D.Toss_init
 aaK:Cls K D.Toss
 Nx:Meth K D.Toss "ways" D.Door_ways
 JG:bZ K D.Toss "leads"
 Qe:bZ K D.Toss "name"
 Fe:bZ K D.Toss "numbers"
 Fi:bZ K D.Toss "offered"
 Ru:bZ K D.Toss "pay"
 Js:bZ K D.Toss "share"
 adS:Mk K D.Even D.Even_init
 Z4:Cls K D.Even
 Lq:Meth K D.Even "ways" D.Door_ways
 J3:bZ K D.Even "leads"
 PL:bZ K D.Even "name"
 Ez:bZ K D.Even "numbers"
 Ep:bZ K D.Even "offered"
 Qw:bZ K D.Even "pay"
 JC:bZ K D.Even "share"
 adE:Mk K D.Hall D.Hall_init
 gJ:Cls K D.Hall
 kh:Meth K D.Hall "check_room" D.Hall_check_room
 oN:Meth K D.Hall "offers" D.Hall_offers
 jz:Meth K D.Hall "size" D.Hall_size
 JQ:bZ K D.Hall "leads"
 Oe:bZ K D.Hall "name"
 EY:bZ K D.Hall "numbers"
 Fv:bZ K D.Hall "offered"
 RD:bZ K D.Hall "pay"
 Kd:bZ K D.Hall "share"
 xi_NoRoom:Jt K D.NoRoom D.HallError D.NoRoom_init
 xs_NoRoom:X3 K D.NoRoom
 xk_NoRoom:S9 K D.NoRoom
 hd_NoRoom:hasDictIn K D.NoRoom=true
 sm_NoRoom:mroIn K D.NoRoom (.ref D.NoRoom)=some true
 xO:bZ K D.NoRoom "room"
 xi_NoPlan:Jt K D.NoPlan D.HallError D.NoPlan_init
 xs_NoPlan:X3 K D.NoPlan
 xk_NoPlan:S9 K D.NoPlan
 hd_NoPlan:hasDictIn K D.NoPlan=true
 sm_NoPlan:mroIn K D.NoPlan (.ref D.NoPlan)=some true
 vX:bZ K D.NoPlan "room"
 ib_HallError:abq K D.HallError
 z_:Ej K D.Door "__init__" D.Door_init
 Pb:vL K Cj Bx vH jD D.Door_init
 Qd:vL K Ay Ci uL lB D.Door_ways
 PB:vL K BP Bo wH lW D.Sure_init
 yH:Ej K D.Mixed "__init__" D.Mixed_init
 Ko:vL K yN yM tZ gB D.Mixed_init
 Oi:vL K Ax Bv wZ lR D.Toss_init
 NP:vL K Cq Cy pX lD D.Even_init
 LQ:vL K CJ z6 pR lU D.Hall_init
 Og:vL K Ad Ao uZ dJ D.Hall_size
 pG:vL K kJ j8 iU cT D.Hall_check_room
 Hg:vL K vD xG mY d_ D.Hall_offers
 Iz:vL K vO xR qy jr D.NoRoom_init
 Jd:vL K wL wI qF gK D.NoPlan_init
 R5:mg "abs"=none
 aeA:mg "all"=none
 Hr:mg "bool"=none
 nu:mg "enumerate"=none
 Vv:mg "int"=none
 cW:mg "isinstance"=none
 dg:mg "len"=none
 tH:mg "list"=none
 fj:mg "range"=none
 aar:mg "sorted"=none
 ajK:mg "str"=none
 aeL:mg "sum"=none
 PJ:mg "tuple"=none
 Wn:mg "zip"=none
 Ud:cQ K mg gU zQ fG
 X4:cQ K mg j_ Dh cM
 acW:cQ K mg rD Pg m_
 UJ:cQ K mg m5 zN jt
 ag6:cQ K mg Nv Ua Ar
 adL:cQ K mg wY PK pq
 adw:cQ K mg GP Pk uP
 agX:cQ K mg Pr U8 Av
 ab2:cQ K mg Aj Np rH
 adN:cQ K mg Bf FW qY
 f_total:cQ K mg GD Nk v8
 aap:cQ K mg uc NQ oG
 uf:cQ K mg iG lJ fD
 abJ:cQ K mg yx zV oK
 RB:cQ K mg uq pU lQ
 Va:cQ K mg uJ sE mZ
 SJ:cQ K mg sJ uV lH
 RL:cQ K mg oE vJ jF
 Ho:cQ K mg nJ ju iz
 Pj:cQ K mg qR rO jX
 acS:cQ K mg zZ M6 rM
 R_:cQ K mg sX xM lG
 Hx:cQ K mg nY pB iy
 XQ:cQ K mg zT yC o7
 U0:cQ K mg w6 zM nq
 JH:cQ K mg oM mO je
 Qt:cQ K mg rW p8 lY
 Xk:cQ K mg zA C_ o8
 Ql:cQ K mg tO uK lC
 JZ:cQ K mg oU jW jx
 Jz:cQ K mg lK qI gP
 HJ:cQ K mg j5 lO fY
 SQ:cQ K mg oA wU jE
 ZK:cQ K mg yt u_ oJ
 yJ:cQ K mg jd iJ fK
 Yr:cQ K mg pF yj kW
 Oj:cQ K mg mW sU iC
 Bl:cQ K mg iu lq dZ
 Hs:cQ K mg jZ oO fX
 JW:cQ K mg pL mR ji
 Kr:cQ K mg pN mQ jm
 JF:cQ K mg pJ qH iZ
 Ls:cQ K mg qK um jU
 Er:cQ K mg mJ nU gM
 Qy:cQ K mg sW vA lX
 ag8:cQ K mg FJ Tg yr
 aax:cQ K mg gF Hw dY
 aj5:cQ K mg Ny abm xJ
 YS:cQ K mg rJ GF mq
 Rj:cQ K mg ug vo lM
 Mf:cQ K mg qP oF jN
 agg:cQ K mg Lw s_same Cd
 adW:cQ K mg G5 yw vY
 acP:cQ K mg Jb Lp vM
 aiT:cQ K mg Um ZF Iv
 agB:cQ K mg Nh zL Bh
 ad4:cQ K mg Il Gg xu
 adR:cQ K mg G4 BJ wR
 ahg:cQ K mg Lx M5 Bu
 abQ:cQ K mg Dc Im rF
 afe:cQ K mg Ph U5 BR
 ag5:cQ K mg Lk S_ Cm
 ad2:cQ K mg G7 P0 uO
 alm:cQ K mg Tc aaw Jg
 abl:cQ K mg Dg Gu rA
 XS:cQ K mg zy CN o_
 QC:cQ K mg uo w5 lA
def Fam(D:Adr)(C:Addr):Prop:=C=D.Door\/C=D.Sure\/C=D.Mixed\/C=D.Toss\/C=D.Even\/C=D.Hall
def Txt.cl{K:Frag}{mg:Str->Ψ}{D:Adr}(T:Txt K mg D):∀C,Fam D C->Cls K C:=by
 rintro C (rfl|rfl|rfl|rfl|rfl|rfl)
 .exact T.abb
 .exact T.abD
 .exact T.Ym
 .exact T.aaK
 .exact T.Z4
 .exact T.gJ
def Txt.Bj{K:Frag}{mg:Str->Ψ}{D:Adr}(T:Txt K mg D):∀C,Fam D C->bZ K C "leads":=by
 rintro C (rfl|rfl|rfl|rfl|rfl|rfl)
 .exact T.Kg
 .exact T.JL
 .exact T.Hh
 .exact T.JG
 .exact T.J3
 .exact T.JQ
def Txt.Ge{K:Frag}{mg:Str->Ψ}{D:Adr}(T:Txt K mg D):∀C,Fam D C->bZ K C "name":=by
 rintro C (rfl|rfl|rfl|rfl|rfl|rfl)
 .exact T.N6
 .exact T.Ox
 .exact T.Jv
 .exact T.Qe
 .exact T.PL
 .exact T.Oe
def Txt.zB{K:Frag}{mg:Str->Ψ}{D:Adr}(T:Txt K mg D):∀C,Fam D C->bZ K C "numbers":=by
 rintro C (rfl|rfl|rfl|rfl|rfl|rfl)
 .exact T.Eo
 .exact T.Fw
 .exact T.CT
 .exact T.Fe
 .exact T.Ez
 .exact T.EY
def Txt.Ig{K:Frag}{mg:Str->Ψ}{D:Adr}(T:Txt K mg D):∀C,Fam D C->bZ K C "offered":=by
 rintro C (rfl|rfl|rfl|rfl|rfl|rfl)
 .exact T.Fj
 .exact T.Eu
 .exact T.DN
 .exact T.Fi
 .exact T.Ep
 .exact T.Fv
def Txt.aa3{K:Frag}{mg:Str->Ψ}{D:Adr}(T:Txt K mg D):∀C,Fam D C->bZ K C "pay":=by
 rintro C (rfl|rfl|rfl|rfl|rfl|rfl)
 .exact T.QB
 .exact T.Qj
 .exact T.Mu
 .exact T.Ru
 .exact T.Qw
 .exact T.RD
def Txt.I9{K:Frag}{mg:Str->Ψ}{D:Adr}(T:Txt K mg D):∀C,Fam D C->bZ K C "share":=by
 rintro C (rfl|rfl|rfl|rfl|rfl|rfl)
 .exact T.JM
 .exact T.JN
 .exact T.Ip
 .exact T.Js
 .exact T.JC
 .exact T.Kd
def dB(D:Adr)(C:Addr):Prop:=C=D.Door\/C=D.Sure\/C=D.Mixed\/C=D.Toss\/C=D.Even
def dB.fam{D:Adr}{C:Addr}(h:dB D C):Fam D C:=by
 unfold dB at h;unfold Fam;rcases h with h|h|h|h|h<;>simp[h]
def Txt.N_{K:Frag}{mg:Str->Ψ}{D:Adr}(T:Txt K mg D):∀C,dB D C->Meth K C "ways" D.Door_ways:=by
 rintro C (rfl|rfl|rfl|rfl|rfl)
 .exact T.M_
 .exact T.Mv
 .exact T.Ju
 .exact T.Nx
 .exact T.Lq
class Bs where
 P:Program
 w:World
 K:Frag
 mg:Str->Ψ
 base:Heap
section
open Bs (P w K mg base)
abbrev gT[Bs](k:Nat)(x:Str)(ps:Θ)(S:ST):Prop:=OkT P w K mg base k x ps S
abbrev gI[Bs](k:Nat)(a:Addr)(ps:Θ)(S:ST):Prop:=OkI P w K mg base CX0 k a ps (spT K S)
abbrev FT[Bs](k:Nat)(f:Addr)(fd:FuncData)(ps:Θ)(S:ST):Prop:=dI P w K mg base CX0 k f fd ps (spT K S)
abbrev Fu[Bs](n:Str)(s:Stmt)(f:Addr)(fd:FuncData):Prop:=Fun K n n s f fd
abbrev Tx[Bs](D:Adr):Prop:=Txt K mg D
variable[Bs]{D:Adr}{f:Addr}{fd:FuncData}
abbrev frT(f:Ξ):T:=.tup [.int f.1,.int f.2]
def isW:T->Option Bool
 |.int _=>some true
 |.bl _=>some false
 |.non=>some false
 |.str _=>some false
 |.tup _=>some false
 |.lst _=>some false
 |_=>none
def jg:ST:=λts q=>∃t b,ts=[t]/\isW t=some b/\q (.fz (.bl b))
def RQ(T:Tx D)(F:Fu gU zQ f fd):FT 1 f fd fG jg:=by
 refine F.okT R6 λai A outer s H E hr nd=>?_;refine⟨_,(bG (bM (xQ (mF .int (qv 0) T.cW T.Vv boot_int) (zj (Y0 (mF .bool (qv 0) T.cW T.Hr boot_bool)))))),?_⟩;rintro _ R ⟨t,b,rfl,h,q⟩;cases t<;>cases h<;>exact q
def mG:ST:=λts q=>∃a b,ts=[.int a,.int b]/\q (.fz (.int (Int.gcd a b)))
def Tw(T:Tx D)(F:Fu j_ Dh f fd):FT 1 f fd cM mG:=by
 refine F.okT Vd λai A outer s H E hr nd=>?_;refine⟨_,(bC (bQ 2 (bL I8 T.R5 boot_abs (bw (qv 0) bA)))
  (bC (bQ 3 (bL I8 T.R5 boot_abs (bw (qv 1) bA)))
  (bC (Rb (b_ (mj hr.units) (qv 3) bx)
  (bC (bQ 4 (bJ cj (qv 2) (qv 3)))
  (bC (bQ 2 (qv 3))
  (bG (bQ 3 (qv 4))))))
  (bG (bM (qv 2)))))),?_⟩
 rintro _ R ⟨a,b,rfl,q⟩;refine⟨λm o=>∃(l r:Nat)(x:OT),o=[.fz (.int a),.fz (.int b),.fz (.int l),.fz (.int r),x]/\Nat.gcd l r=Int.gcd a b/\m=r,⟨_,_,_,_,rfl,rfl,rfl⟩,?_⟩;rintro m _ ⟨l,r,x,rfl,hg,hm⟩;refine sw2 (λh=>?_) λh=>?_
 .have hr:r≠0:=by intro z;subst z;cases h
  refine⟨λo=>∃x,o=[.fz (.int a),.fz (.int b),.fz (.int r),.fz (.int ((l%r:Nat):Int)),x],?_,?_⟩
  .rintro _ ⟨x,rfl⟩;exact⟨l%r,by have:=Nat.mod_lt l (Nat.pos_of_ne_zero hr);lia,r,l%r,x,rfl,(Nat.gcd_comm r (l%r)).trans ((Nat.gcd_rec r l).symm.trans ((Nat.gcd_comm r l).trans hg)),rfl⟩
  .exact⟨by lia,_,by rw[Int.natCast_emod];rfl⟩
 .have hr:r=0:=by
   by_cases z:r=0
   .exact z
   .have:(decide ((r:Int)=0))=false:=Zp (by lia);rw[show xr true (decide ((r:Int)=0)) = !decide ((r:Int)=0)from rfl,this]at h;cases h
  subst hr;rw[Nat.gcd_zero_right]at hg;rw[<- hg]at q;exact q
structure Low(t b x y:Int):Prop where
 pos:0<y
 gcd:Int.gcd x y=1
 eq:x*b=t*y
 lx:x.natAbs<=t.natAbs
 ly:y.natAbs<=b.natAbs
def G9{c q:Int}(h:c≠0):Int.fdiv (c*q) c=q:=by
 rw[Zww (Int.dvd_mul_right c q),Zzw _ h]
def Jj{c q:Int}(h:c≠0):q.natAbs<=(c*q).natAbs:=by
 rw[VU];exact Zxy _ (by lia)
def wV{t b c:Int}(hb:b≠0)(hc:c≠0)(hg:c.natAbs=Int.gcd t b)(hs:0<c*b):Low t b (Int.fdiv t c) (Int.fdiv b c):=by
 have d1:c ∣ t:=Int.natAbs_dvd.mp (by rw[hg];exact Int.gcd_dvd_left t b);have d2:c ∣ b:=Int.natAbs_dvd.mp (by rw[hg];exact JS t b);obtain⟨x,rfl⟩:=d1;obtain⟨y,rfl⟩:=d2;rw[G9 hc,G9 hc];refine⟨?_,?_,?_,Jj hc,Jj hc⟩
 .rw[<- Zxz]at hs;have hp:0<c*c:=by
   rcases Int.lt_or_lt_of_ne hc with z|z
   .exact Zwv z z
   .exact XZ z z
  exact Zwx hs hp
 .rw[Int.gcd_mul_left]at hg;have hp:0<c.natAbs:=by lia
  exact Nat.eq_of_mul_eq_mul_left hp (by rw[Nat.mul_one];exact hg.symm)
 .rw[Int.mul_left_comm,Zxz]
def mL{a b:Int}(hb:b≠0):(0:Int)<(Int.gcd a b:Nat):=by
 have:=Zyr a hb;lia
def Ld{i j:Int}(h:i.natAbs<=j.natAbs)(k:Bd j):Bd i:=Y3 h k
def Zx{i:Int}(h:Bd i):Bd (-i):=by unfold Bd at *;rw[Int.natAbs_neg];exact h
def Vk{a b:Int}(hb:b≠0)(h:Bd b):Bd ((Int.gcd a b:Nat):Int):=Ld (by
 have:=UY (by lia) (Int.gcd_dvd_natAbs_right a b);omega) h
def uT:ST:=λts q=>∃t b,ts=[.int t,.int b]/\b≠0/\Bd b/\∀x y,Low t b x y->q (.fz (frT (x,y)))
def aas(T:Tx D)(cG:gT 1 gU fG jg)(d7:gT 1 j_ cM mG)(F:Fu rD Pg f fd):FT 2 f fd m_ uT:=by
 refine F.okT ZJ λai A outer s H E hr nd=>?_;refine⟨_,(bC (cB (QW.qt (jV (dW (dN (bH cG (bw (qv 0) bA)))) (iM (dW (dN (bH cG (bw (qv 1) bA)))))))
  (bG f9)
  bR)
  (bC (cB (b_ (go_eq hr.units) (qv 1) bx)
  (bG f9)
  bR)
  (bC (bQ 2 (bH d7 (bw (qv 0) (bw (qv 1) bA))))
  (bC (cB (b_ uz (qv 1) bx)
  (bG (bQ 2 (zu (qv 2))))
  bR)
  (bG (bM (cX (bw (bJ mH (qv 0) (qv 2)) (bw (bJ mH (qv 1) (qv 2)) bA))))))))),?_⟩
 rintro _ R ⟨t,b,rfl,hb,hd,q⟩;refine⟨_,_,rfl,rfl,_,_,rfl,rfl,?_⟩;have g0:=mL (a:=t) hb;have g1:=Vk (a:=t) hb hd;refine swF (Zp hb) ⟨_,_,rfl,swD (λhn=>⟨⟨by omega,Zx g1⟩,⟨by omega,Zx g1⟩,q _ _ (wV hb (by omega) (by lia) (Zwv (by lia) hn))⟩) λhn=>⟨⟨by exact WU g0,g1⟩,⟨by exact WU g0,g1⟩,q _ _ (wV hb (WU g0) (by lia) (XZ g0 (by lia)))⟩⟩
abbrev frR(r:Rat):T:=.tup [.int r.num,.int r.den]
def j4{t b x y:Int}(h:Low t b x y)(hb:b≠0):frT (x,y)=frR (Rat.divInt t b):=by
 have hy:=h.pos;have e:Rat.divInt t b=⟨x,y.toNat,by lia,by have:=h.gcd;unfold Int.gcd at this;rw[show y.toNat=y.natAbs by lia];exact this⟩:=by
  rw[Rat.mk_eq_divInt,show((y.toNat:Nat):Int)=y by exact Zwu (XY hy)];exact(JJ hb (WU hy)).mpr h.eq.symm
 rw[e];show T.tup [.int x,.int y]=.tup [.int x,.int (y.toNat:Nat)];rw[show((y.toNat:Nat):Int)=y by exact Zwu (XY hy)]
def rd(r:Rat):Rat.divInt r.num r.den=r:=Rat.num_divInt_den r
def nF(r:Rat):((r.den:Nat):Int)≠0:=by have:=r.den_pos;lia
def Bq(r:Rat):Prop:=Bd r.num/\Bd (r.den:Nat)
def Wh:ST:=λts q=>∃a b:Rat,ts=[frR a,frR b]/\Bq a/\Bq b/\Bd ((a.den:Int)*b.den)/\q (.fz (frR (a+b)))
def Bb:ST:=λts q=>∃a b:Rat,ts=[frR a,frR b]/\Bq a/\Bq b/\Bd ((a.den:Int)*b.den)/\q (.fz (frR (a-b)))
def QZ:ST:=λts q=>∃a b:Rat,ts=[frR a,frR b]/\Bq a/\Bq b/\Bd ((a.den:Int)*b.den)/\q (.fz (frR (a*b)))
def WX:ST:=λts q=>∃a b:Rat,ts=[frR a,frR b]/\b≠0/\Bq a/\Bq b/\Bd ((a.den:Int)*b.num)/\q (.fz (frR (a/b)))
def HW:ST:=λts q=>∃a b:Rat,ts=[frR a,frR b]/\Bq a/\Bq b/\q (.fz (.bl (decide (a<b))))
def nM{a b:Int}(ha:a≠0)(hb:b≠0):a*b≠0:=λz=>(Int.mul_eq_zero.mp z).elim ha hb
section
variable(fB:gT 2 rD m_ uT)
include fB
def ada(F:Fu Nv Ua f fd):FT 3 f fd Ar Wh:=by
 refine F.okT acI λai A outer s H E hr nd=>?_;refine⟨_,(bG (bM (bH fB (bw (bJ cD (bJ dU (bI (qv 0) bx) (bI (qv 1) bx)) (bJ dU (bI (qv 1) bx) (bI (qv 0) bx))) (bw (bJ dU (bI (qv 0) bx) (bI (qv 1) bx)) bA))))),?_⟩;rintro _ R ⟨a,b,rfl,ha,hb,hd,q⟩;refine⟨⟨ha.1,hb.2⟩,⟨hb.1,ha.2⟩,⟨ha.2,hb.2⟩,_,_,rfl,nM (nF a) (nF b),hd,λx y l=>?_⟩;rw[j4 l (nM (nF a) (nF b)),<- Qr _ _ (nF a) (nF b),rd,rd];exact q
def abT(F:Fu wY PK f fd):FT 3 f fd pq Bb:=by
 refine F.okT abF λai A outer s H E hr nd=>?_;refine⟨_,(bG (bM (bH fB (bw (bJ Dv (bJ dU (bI (qv 0) bx) (bI (qv 1) bx)) (bJ dU (bI (qv 1) bx) (bI (qv 0) bx))) (bw (bJ dU (bI (qv 0) bx) (bI (qv 1) bx)) bA))))),?_⟩;rintro _ R ⟨a,b,rfl,ha,hb,hd,q⟩;refine⟨⟨ha.1,hb.2⟩,⟨hb.1,ha.2⟩,⟨ha.2,hb.2⟩,_,_,rfl,nM (nF a) (nF b),hd,λx y l=>?_⟩;rw[j4 l (nM (nF a) (nF b)),<- Rat.divInt_sub_divInt _ _ (nF a) (nF b),rd,rd];exact q
def abN(F:Fu GP Pk f fd):FT 3 f fd uP QZ:=by
 refine F.okT aaT λai A outer s H E hr nd=>?_;refine⟨_,(bG (bM (bH fB (bw (bJ dU (bI (qv 0) bx) (bI (qv 1) bx)) (bw (bJ dU (bI (qv 0) bx) (bI (qv 1) bx)) bA))))),?_⟩;rintro _ R ⟨a,b,rfl,ha,hb,hd,q⟩;refine⟨⟨ha.1,hb.1⟩,⟨ha.2,hb.2⟩,_,_,rfl,nM (nF a) (nF b),hd,λx y l=>?_⟩;rw[j4 l (nM (nF a) (nF b)),<- QY,rd,rd];exact q
def acB(F:Fu Pr U8 f fd):FT 3 f fd Av WX:=by
 refine F.okT acn λai A outer s H E hr nd=>?_;refine⟨_,(bG (bM (bH fB (bw (bJ dU (bI (qv 0) bx) (bI (qv 1) bx)) (bw (bJ dU (bI (qv 0) bx) (bI (qv 1) bx)) bA))))),?_⟩;rintro _ R ⟨a,b,rfl,h0,ha,hb,hd,q⟩;have nb:b.num≠0:=λz=>h0 (by rw[<- rd b,z];exact Zzv _);refine⟨⟨ha.1,hb.2⟩,⟨ha.2,hb.1⟩,_,_,rfl,nM (nF a) nb,hd,λx y l=>?_⟩;rw[j4 l (nM (nF a) nb),<- QY,rd,<- Rat.inv_def,<- Rat.div_def];exact q
end
def ZS(F:Fu Aj Np f fd):FT 1 f fd rH HW:=by
 refine F.okT aaN λai A outer s H E hr nd=>?_;refine⟨_,(bG (bM (mC uz (bJ dU (bI (qv 0) bx) (bI (qv 1) bx)) (bJ dU (bI (qv 1) bx) (bI (qv 0) bx))))),?_⟩;rintro _ R ⟨a,b,rfl,ha,hb,q⟩;refine⟨⟨ha.1,hb.2⟩,⟨hb.1,ha.2⟩,?_⟩;rw[show decide (a<b)=decide (a.num*(b.den:Int)<b.num*(a.den:Int))from decide_eq_decide.mpr (Rat.lt_iff a b)]at q;exact q
def pY:ST:=λts q=>∃r:Rat,ts=[frR r]/\q (.fz (.bl true))
def Q_(T:Tx D)(cG:gT 1 gU fG jg)(d7:gT 1 j_ cM mG)(F:Fu m5 zN f fd):FT 2 f fd jt pY:=by
 refine F.okT Qu λai A outer s H E hr nd=>?_;refine⟨_,(bC (cB (QW.qt (jV (dW (dN (mF .tuple (qv 0) T.cW T.PJ boot_tuple))) (iM (b_ (mj hr.units) (bL cH T.dg WP (bw (qv 0) bA)) bx))))
  (bG (bM k_))
  bR)
  (bC (bQ 1 (bI (qv 0) bx))
  (bC (bQ 2 (bI (qv 0) bx))
  (bC (cB (QW.qt (jV (dW (dN (bH cG (bw (qv 1) bA)))) (iM (dW (dN (bH cG (bw (qv 2) bA)))))))
  (bG (bM k_))
  bR)
  (bG (bM (xQ (mC aek (qv 2) bx) (zj (mC (go_eq hr.units) (bH d7 (bw (qv 1) (bw (qv 2) bA))) bx))))))))),?_⟩
 rintro _ R ⟨r,rfl,q⟩;refine⟨_,_,rfl,rfl,_,_,rfl,rfl,?_⟩;have:=r.den_pos;refine swT (Zs (by lia)) ⟨_,_,rfl,?_⟩;rw[show Int.gcd r.num r.den=1 from r.reduced];exact q
def amj:List Rat->Nat
 |[]=>1
 |r::rs=>Nat.lcm r.den (amj rs)
def iQ(n:Nat):List Rat->Nat
 |[]=>n
 |r::rs=>iQ (Nat.lcm n r.den) rs
theorem m9:∀(rs:List Rat){n:Nat},0<n->0<iQ n rs
 |[],_,h=>h
 |r::rs,_,h=>m9 rs (Nat.lcm_pos h r.den_pos)
theorem m7:∀(rs:List Rat){n:Nat},n ∣ iQ n rs/\∀r∈rs,r.den ∣ iQ n rs
 |[],n=>⟨Nat.dvd_refl n,λ_ z=>(nomatch z)⟩
 |r::rs,n=>by
  obtain⟨a,b⟩:=m7 rs (n:=Nat.lcm n r.den);refine⟨Zxx (Nat.dvd_lcm_left ..) a,λx hx=>?_⟩;rcases YU.mp hx with rfl|z
  .exact Zxx (Nat.dvd_lcm_right ..) a
  .exact b x z
theorem sZ:∀(rs:List Rat){n m:Nat},n ∣ m->(∀r∈rs,r.den ∣ m)->iQ n rs ∣ m
 |[],_,_,h,_=>h
 |r::rs,_,_,h,k=>sZ rs (Nat.lcm_dvd h (k r (aO ..))) λx hx=>k x (aJ _ hx)
theorem Je:∀(as bs:List Rat)(n:Nat),iQ n (as++bs)=iQ (iQ n as) bs
 |[],_,_=>rfl
 |_::as,bs,_=>Je as bs _
def tops(B:Nat)(rs:List Rat):List Int:=rs.map λr=>r.num*((B/r.den:Nat):Int)
def Tp{m n:Nat}(h:Bd (n:Int))(l:m<=n):Bd (m:Int):=Ld (by omega) h
def aaQ(n d:Nat):(Int.fdiv (n:Int) ((Int.gcd n d:Nat):Int))*d=((Nat.lcm n d:Nat):Int):=by
 rw[show Int.gcd (n:Int) (d:Int)=Nat.gcd n d from rfl,Zww (Int.natCast_dvd_natCast.mpr (Nat.gcd_dvd_left n d)),<- Int.natCast_ediv,<- JP,Nat.lcm,Nat.div_mul_right_comm (Nat.gcd_dvd_left n d)]
def Ht(m n:Nat):Int.fdiv (m:Int) (n:Int)=((m/n:Nat):Int):=by rw[Zyw _ (X9 _)];rfl
def Ja:ST:=λts q=>∃rs:List Rat,ts=[.lst (rs.map frR)]/\rs.length<=1000/\(∀r∈rs,Bd r.num)/\Bd (iQ 1 rs:Nat)/\q (.fz (.tup [.lst ((tops (iQ 1 rs) rs).map T.int),.int (iQ 1 rs:Nat)]))
def aae(d7:gT 1 j_ cM mG)(F:Fu Bf FW f fd):FT 2 f fd qY Ja:=by
 refine F.okT Za λai A outer s H E hr nd=>?_;refine⟨_,(bC (bQ 1 bx)
  (bC (eV (cR (qv 0)) (bW (n:=99) 2)
  (bG (bQ 1 (bJ dU (bJ mH (qv 1) (bH d7 (bw (qv 1) (bw (bI (qv 2) bx) bA)))) (bI (qv 2) bx)))))
  (bG (bM (cX (bw (fM (bF FW) Wc ["fractions","bottom","?one"] ["one"] (cR (qv 0)) (g_ (i:=0)) cJ (bJ dU (bI (qv 0) bx) (bJ mH (qv 2) (bI (qv 0) bx)))) (bw (qv 1) bA))))))),?_⟩
 rintro _ R ⟨rs,rfl,rl,hn,hB,q⟩;refine jc frR rs (λas o=>∃x,o=[.fz (.lst (rs.map frR)),.fz (.int (iQ 1 as:Nat)),x]) ⟨_,rfl⟩ ?_ ?_
 .rintro as a bs _ e ⟨x,rfl⟩;have d1:=(m7 (a::bs) (n:=iQ 1 as)).1;have el:iQ 1 rs=iQ (iQ 1 as) (a::bs):=by rw[e];exact Je as (a::bs) 1
  have hp:=m9 as UP;have hB0:=m9 rs UP;have b1:Bd (iQ 1 as:Nat):=Tp hB (el ▸ UY (el ▸ hB0) d1);have b2:Bd (a.den:Nat):=Tp hB (UY hB0 ((m7 rs).2 a (e ▸ by simp)));refine⟨_,_,rfl,⟨by have:=mL (a:=(iQ 1 as:Nat)) (nF a);exact WU this,Vk (nF a) b2⟩,⟨Ld ?_ b1,b2⟩,.fz (frR a),?_⟩
  .rw[show Int.gcd ((iQ 1 as:Nat):Int) (a.den:Int)=Nat.gcd (iQ 1 as) a.den from rfl,Ht];exact Nat.div_le_self ..
  .rw[aaQ,Je]
   rfl
 .rintro _ ⟨x,rfl⟩;refine⟨aL (by simpa using rl) (by decide),comp_map frR (λr=>.int (r.num*((iQ 1 rs/r.den:Nat):Int))) rs (λr hr N M hN=>?_) ?_⟩
  .have b2:Bd (r.den:Nat):=Tp hB (UY (m9 rs UP) ((m7 rs).2 r hr));refine⟨⟨nF r,b2⟩,⟨hn r hr,Ld ?_ hB⟩,?_⟩
   .rw[Ht];exact Nat.div_le_self ..
   .rw[Ht];exact hN
  .have:(tops (iQ 1 rs) rs).map T.int=rs.map (λr=>.int (r.num*((iQ 1 rs/r.den:Nat):Int))):=by unfold tops;rw[WS];rfl
   rw[this]at q;exact q
def WR(l:List Nat):Bool:=decide (1<=l.length)&&decide (l.length<=8)&&l.all λc=>decide (97<=c)&&decide (c<=122)
abbrev Wd(n:Str):Prop:=WR n.cps.toList=true
def Wd.len{n:Str}(h:Wd n):1<=n.length/\n.length<=8:=by
 unfold Wd WR at h;simp only[JY,decide_eq_true_eq,Array.length_toList]at h;exact h.1
def VN(c d:Nat):(!decide ((⟨#[d]⟩ : Str).cps.toList<(⟨#[c]⟩ : Str).cps.toList))=decide (c<=d):=by
 have:((⟨#[d]⟩ : Str).cps.toList<(⟨#[c]⟩ : Str).cps.toList)↔d<c:=by
  show[d]<[c]↔d<c;constructor
  .intro h;cases h with
   |rel h=>exact h
   |cons h=>cases h
  .exact λh=>.rel h
 rw[show decide ((⟨#[d]⟩ : Str).cps.toList<(⟨#[c]⟩ : Str).cps.toList)=decide (d<c)from decide_eq_decide.mpr this];by_cases h:c<=d
 .rw[Zs h,Zp (UR h)];rfl
 .rw[Zp h,Zs (Nat.lt_of_not_le h)];rfl
def sY:ST:=λts q=>∃n:Str,ts=[.str n]/\Wd n/\q (.fz (.bl true))
def Vn(T:Tx D)(F:Fu pF yj f fd):FT 1 f fd kW sY:=by
 refine F.okT Td λai A outer s H E hr nd=>?_;refine⟨_,(bC (cB (QW.qt (jV (dW (dN (mF .str (qv 0) T.cW T.ajK boot_str))) (iM (dW (Hl HD HD bx (bL adh T.dg WP (bw (qv 0) bA)) (YW T.HY λ_=>.int _))))))
  (bG (bM k_))
  bR)
  (bG (bM (bL (abr rfl) T.aeA boot_all (bw (fM (bF yj) DK DK ["sign"] (agZ (qv 0)) (g_ (i:=0)) cJ (Ib aaP aaP j7 (qv 0) j7)) bA))))),?_⟩
 rintro _ R ⟨n,rfl,hw,q⟩;obtain⟨l1,l8⟩:=hw.len;refine⟨aL l8 (by decide),swT (Zs (by lia)) (swF (by rw[Zs (show((n.length:Nat):Int)<=8 by lia)];rfl) ⟨by rw[ak];exact aL l8 (by decide),comp_map (λc=>.str ⟨#[c]⟩) (λc=>.bl (decide (97<=c)&&decide (c<=122))) n.cps.toList (λc _ N M hN=>?_) ⟨n.cps.toList.map λc=>decide (97<=c)&&decide (c<=122),by rw[WS];rfl,?_⟩⟩)⟩
 .have e1:(!decide ((⟨#[c]⟩ : Str).cps.toList<("a":Str).cps.toList))=decide (97<=c):=by rw[show("a":Str)=⟨#[97]⟩from by decide +kernel];exact VN 97 c
  have e2:(!decide (("z":Str).cps.toList<(⟨#[c]⟩ : Str).cps.toList))=decide (c<=122):=by rw[show("z":Str)=⟨#[122]⟩from by decide +kernel];exact VN c 122
  refine sw2 (λh=>?_) λh=>?_
  .rw[<- e1,h,<- e2]at hN;exact hN
  .rw[<- e1,h]at hN;exact hN
 .have:((n.cps.toList.map λc=>decide (97<=c)&&decide (c<=122)).all λb=>b)=true:=by
   unfold Wd WR at hw;rw[JY]at hw;rw[List.all_map];exact hw.2
  rw[<- this]at q;exact q
def qJ:ST:=λts q=>∃(n:Str)(r:Rat),ts=[.str n,frR r]/\Wd n/\q (.fz .non)
def Ka(jA:gT 1 pF kW sY)(iw:gT 2 m5 jt pY)(F:Fu mW sU f fd):FT 3 f fd iC qJ:=by
 refine F.okT Kp λai A outer s H E hr nd=>?_;refine⟨_,(bC (cB (dW (dN (bH jA (bw (qv 0) bA))))
  (bG f9)
  bR)
  (bG (cB (dW (dN (bH iw (bw (qv 1) bA))))
  (bG f9)
  bR))),?_⟩
 rintro _ R ⟨n,r,rfl,hw,q⟩;exact⟨_,rfl,hw,_,rfl,q⟩
def j9:ST:=λts q=>∃n:Str,ts=[.str n]/\Wd n/\q (.fz .non)
def zP(jA:gT 1 pF kW sY)(F:Fu iu lq f fd):FT 2 f fd dZ j9:=by
 refine F.okT zf λai A outer s H E hr nd=>?_;refine⟨_,(bG (cB (dW (dN (bH jA (bw (qv 0) bA))))
  (bG f9)
  bR)),?_⟩
 rintro _ R ⟨n,rfl,hw,q⟩;exact⟨_,rfl,hw,q⟩
def Ch(r:Rat):Prop:=0<=r/\r<=1/\Bd (r.den:Nat)
def Ch.bq{r:Rat}(h:Ch r):Bq r:=by
 have h0:=Rat.num_nonneg.mpr h.1;have h1:=(Rat.le_iff r 1).mp h.2.1;exact⟨Ld (by have:r.num*((1:Rat).den:Int)<=(1:Rat).num*(r.den:Int):=h1;simp at this;omega) h.2.2,h.2.2⟩
def bq0:Bq 0:=⟨Nat.two_pow_pos 8000,Zwt (by decide)⟩
def bq1:Bq 1:=⟨Zwt (by decide),Zwt (by decide)⟩
def nH:ST:=λts q=>∃r:Rat,ts=[frR r]/\Ch r/\q (.fz .non)
def Ew(T:Tx D)(iw:gT 2 m5 jt pY)(pW:gT 1 Aj rH HW)(F:Fu jZ oO f fd):FT 3 f fd fX nH:=by
 refine F.okT Fq λai A outer s H E hr nd=>?_;refine⟨_,(bG (cB (QW.qt (jV (dW (dN (bH iw (bw (qv 0) bA)))) (jV (dN (bH pW (bw (qv 0) (bw (jY T.i_ T.gQ) bA)))) (iM (dN (bH pW (bw (jY T.yP T.qM) (bw (qv 0) bA))))))))
  (bG f9)
  bR)),?_⟩
 rintro _ R ⟨r,rfl,hc,q⟩;refine⟨_,rfl,r,0,rfl,hc.bq,bq0,?_⟩;rw[Zp (Rat.not_lt.mpr hc.1)];refine⟨1,r,rfl,bq1,hc.bq,?_⟩;rw[Zp (Rat.not_lt.mpr hc.2.1)];exact q
def B_(rs:List Rat):Rat:=rs.foldr (· + ·) 0
theorem Rm{B:Nat}(hB:B≠0):∀{rs:List Rat},(∀r∈rs,r.den ∣ B)->Rat.divInt (tops B rs).sum B=B_ rs
 |[],_=>by show Rat.divInt 0 _=0;exact Zzv _
 |r::rs,h=>by
  have ih:=Rm hB (rs:=rs) λx hx=>h x (aJ _ hx);have qi:((B:Nat):Int)≠0:=by lia
  obtain⟨m,hm⟩:=h r (aO ..);show Rat.divInt (r.num*((B/r.den:Nat):Int)+(tops B rs).sum) B=r+B_ rs;have e1:r+B_ rs=Rat.divInt (r.num*B+(tops B rs).sum*r.den) (r.den*B):=by rw[<- Qr _ _ (nF r) qi,rd,ih]
  rw[e1];refine(JJ qi (nM (nF r) qi)).mpr ?_;have:B/r.den=m:=by rw[hm];exact Nat.mul_div_cancel_left _ r.den_pos
  rw[this,hm];simp only[JP]
  grind
def Q6:ST:=λts q=>∃rs:List Rat,ts=[.lst (rs.map frR)]/\rs.length<=1000/\(∀r∈rs,Bd r.num)/\Bd (iQ 1 rs:Nat)/\q (.fz (frR (B_ rs)))
def aag(T:Tx D)(yE:gT 2 Bf qY Ja)(fB:gT 2 rD m_ uT)(F:Fu GD Nk f fd):FT 3 f fd v8 Q6:=by
 refine F.okT aa0 λai A outer s H E hr nd=>?_;refine⟨_,(bC (bQ 1 (bH yE (bw (qv 0) bA)))
  (bG (bM (bH fB (bw (bL (aa5 rfl) T.aeL boot_sum (bw (bI (qv 1) bx) bA)) (bw (bI (qv 1) bx) bA)))))),?_⟩
 rintro _ R ⟨rs,rfl,rl,hn,hB,q⟩;have hp:=m9 rs UP;have hz:((iQ 1 rs:Nat):Int)≠0:=by lia
 refine⟨rs,rfl,rl,hn,hB,_,rfl,_,_,rfl,hz,hB,λx y l=>?_⟩;rw[j4 l hz,Rm (VW hp) (m7 rs).2];exact q
abbrev wyT(p:Str×Rat):T:=.tup [.str p.1,frR p.2]
def vZ:ST:=λts q=>∃ps:List (Str×Rat),ts=[.lst (ps.map wyT)]/\ps.length<=1000/\(∀p∈ps,Wd p.1/\Ch p.2)/\Bd (iQ 1 (ps.map (·.2)):Nat)/\B_ (ps.map (·.2))=1/\q (.fz .non)
def HB(T:Tx D)(eG:gT 2 iu dZ j9)(gO:gT 3 jZ fX nH)(Mt:gT 3 GD v8 Q6)(F:Fu pL mR f fd):FT 4 f fd ji vZ:=by
 refine F.okT Ia λai A outer s H E hr nd=>?_;refine⟨_,(bC (eV (cR (qv 0)) (fW (n:=2) (bT (bW (n:=99) 1) (bT (bW (n:=99) 2) dO)))
  (bC (lN (bH eG (bw (qv 1) bA)))
  (bG (lN (bH gO (bw (qv 2) bA))))))
  (bG (cB (b_ (mj hr.units) (bH Mt (bw (fM (bF mR) qm qm ["pair"] (cR (qv 0)) (g_ (i:=0)) cJ (bI (qv 0) bx)) bA)) (jY T.yP T.qM))
  (bG f9)
  bR))),?_⟩
 rintro _ R ⟨ps,rfl,pl,hp,hB,hs,q⟩;refine jc wyT ps (λ_ o=>∃x y,o=[.fz (.lst (ps.map wyT)),x,y]) ⟨_,_,rfl⟩ ?_ ?_
 .rintro as a bs _ e ⟨x,y,rfl⟩;obtain⟨h1,h2⟩:=hp a (e ▸ by simp);exact⟨rfl,_,rfl,h1,_,rfl,h2,_,_,rfl⟩
 .rintro _ ⟨x,y,rfl⟩;refine⟨aL (by simpa using pl) (by decide),comp_map wyT (λp=>frR p.2) ps (λp _ N M hN=>hN) ⟨ps.map (·.2),by rw[WS];rfl,by simpa using pl,λr hr=>?_,hB,?_⟩⟩
  .obtain⟨p,eJ,rfl⟩:=YV.mp hr;exact(hp p eJ).2.bq.1
  .rw[hs];exact q
def addW(ws:List (Str×Rat))(p:Str×Rat):List (Str×Rat):=if(ws.any λx=>decide (x.1=p.1))=true then ws.map (λx=>if x.1=p.1 then(x.1,x.2+p.2)else x)else ws++[p]
def jO(ps:List (Str×Rat)):List (Str×Rat):=ps.foldl addW []
abbrev wKs(ws:List (Str×Rat)):List Key:=ws.map λx=>.inr x.1
abbrev wTs(ws:List (Str×Rat)):List T:=ws.map λx=>frR x.2
def afo(ws:List (Str×Rat))(n:Str):Qc (wKs ws) (.inr n)=ws.any λx=>decide (x.1=n):=by
 unfold Qc;rw[List.any_map]
 congr 1
 funext x
 exact decide_eq_decide.mpr ⟨λz=>Sum.inr.inj z,λz=>ZH Sum.inr z⟩
theorem Uk(n:Str):∀ws:List (Str×Rat),pC (wKs ws) (wTs ws) (.inr n)=(ws.find? λx=>decide (x.1=n)).map λx=>frR x.2
 |[]=>rfl
 |x::ws=>by
  show(if(Sum.inr x.1:Key)=.inr n then some (frR x.2)else pC (wKs ws) (wTs ws) (.inr n))=_;by_cases h:x.1=n
  .rw[ZY (ZH Sum.inr h),List.find?_cons_of_pos (p:=λx:Str×Rat=>decide (x.1=n)) (Zs h)];rfl
  .rw[ZZ λz=>h (Sum.inr.inj z),List.find?_cons_of_neg (p:=λx:Str×Rat=>decide (x.1=n)) (by show ¬decide (x.1=n)=true;rw[Zp h];decide),Uk n ws]
def zR(ws:List (Str×Rat))(n:Str):Rat:=((ws.find? λx=>decide (x.1=n)).map (·.2)).getD 0
def acC(ws:List (Str×Rat))(n:Str):((pC (wKs ws) (wTs ws) (.inr n)).getD (frR 0))=frR (zR ws n):=by
 rw[Uk];unfold zR;cases(ws.find? λx=>decide (x.1=n))<;>rfl
def VF{ws:List (Str×Rat)}{n:Str}(nd:(ws.map (·.1)).Nodup){x:Str×Rat}(hx:x∈ws)(e:x.1=n):(ws.find? λy=>decide (y.1=n))=some x:=by
 induction ws with
 |nil=>cases hx
 |cons y ws ih =>
  obtain⟨n1,n2⟩:=List.nodup_cons.mp nd;rcases YU.mp hx with rfl|z
  .exact List.find?_cons_of_pos (p:=λy:Str×Rat=>decide (y.1=n)) (Zs e)
  .rw[List.find?_cons_of_neg (p:=λy:Str×Rat=>decide (y.1=n)) (by show ¬decide (y.1=n)=true;rw[Zp λw=>n1 (YV.mpr ⟨x,z,e.trans w.symm⟩)];decide)];exact ih n2 z
def aib(ws:List (Str×Rat))(p:Str×Rat)(nd:(ws.map (·.1)).Nodup):kpK (wKs ws) (.inr p.1)=wKs (addW ws p)/\kpT (wKs ws) (wTs ws) (.inr p.1) (frR (zR ws p.1+p.2))=wTs (addW ws p):=by
 unfold kpK kpT addW;rw[afo];by_cases h:(ws.any λx=>decide (x.1=p.1))=true
 .rw[ZY h,ZY h,ZY h];refine⟨by simp only[wKs,WS];refine UU λx _=>?_;show(Sum.inr x.1:Key)=.inr (if x.1=p.1 then(x.1,x.2+p.2)else x).1;split<;>rfl,?_⟩
  clear h
  rw[show wTs (ws.map λx=>if x.1=p.1 then(x.1,x.2+p.2)else x)=ws.map ((λx=>frR x.2) ∘ λx=>if x.1=p.1 then(x.1,x.2+p.2)else x)from WS]
  suffices H:∀(us:List (Str×Rat)),(∀x∈us,x.1=p.1->x.2=zR ws p.1)->List.zipWith (λ(k:Key)x=>if k=.inr p.1 then frR (zR ws p.1+p.2)else x) (wKs us) (wTs us)=us.map ((λx=>frR x.2) ∘ λx=>if x.1=p.1 then(x.1,x.2+p.2)else x)from H ws λx hx e=>by
   unfold zR;rw[VF nd hx e];rfl
  intro us
  induction us with
  |nil=>intro _;rfl
  |cons x us ih =>
   intro H;show List.zipWith _ (Sum.inr x.1::wKs us) (frR x.2::wTs us)=_;rw[List.zipWith_cons_cons,ih λy hy=>H y (aJ _ hy),List.map_cons]
   congr 1
   by_cases e:x.1=p.1
   .rw[ZY (ZH Sum.inr e)];show _=frR (if x.1=p.1 then(x.1,x.2+p.2)else x).2;rw[ZY e,H x (aO ..) e]
   .rw[ZZ λz=>e (Sum.inr.inj z)];show _=frR (if x.1=p.1 then(x.1,x.2+p.2)else x).2;rw[ZZ e]
 .rw[ZZ h,ZZ h,ZZ h];have n0:zR ws p.1=0:=by
   unfold zR;rw[List.find?_eq_none.mpr λx hx z=>h (List.any_eq_true.mpr ⟨x,hx,z⟩)];rfl
  rw[n0,Zzy];simp only[wKs,wTs,bf];exact⟨rfl,rfl⟩
def ac8{ws:List (Str×Rat)}{p:Str×Rat}(nd:(ws.map (·.1)).Nodup):((addW ws p).map (·.1)).Nodup:=by
 unfold addW;by_cases h:(ws.any λx=>decide (x.1=p.1))=true
 .rw[ZY h,WS];rw[show ws.map ((λx=>x.1) ∘ λx=>if x.1=p.1 then(x.1,x.2+p.2)else x)=ws.map (·.1)from UU λx _=>by show(if x.1=p.1 then(x.1,x.2+p.2)else x).1=x.1;split<;>rfl];exact nd
 .rw[ZZ h,bf];refine List.nodup_append.mpr ⟨nd,by simp,λa ha b hb z=>h ?_⟩;obtain⟨x,hx,rfl⟩:=YV.mp ha;rw[List.map_singleton,YR]at hb;exact List.any_eq_true.mpr ⟨x,hx,Zs (z.trans hb)⟩
def Xw(as bs:List (Str×Rat)):jO (as++bs)=bs.foldl addW (jO as):=List.foldl_append ..
def QF(ps:List (Str×Rat)):((jO ps).map (·.1)).Nodup:=by
 suffices H:∀(ps ws:List (Str×Rat)),(ws.map (·.1)).Nodup->((ps.foldl addW ws).map (·.1)).Nodup from H ps [] .nil
 intro ps
 induction ps with
 |nil=>exact λ_ h=>h
 |cons p ps ih=>exact λws h=>ih _ (ac8 h)
def KZ(ps:List (Str×Rat)):(jO ps).length<=ps.length:=by
 suffices H:∀(ps ws:List (Str×Rat)),(ps.foldl addW ws).length<=ws.length+ps.length from by simpa[jO]using H ps []
 intro ps
 induction ps with
 |nil=>exact λ_=>aG _
 |cons p ps ih =>
  intro ws;have h1:(addW ws p).length<=ws.length+1:=by
   unfold addW;split
   .rw[ak];exact Xs _
   .rw[aA,List.length_singleton];exact aG _
  have:=ih (addW ws p);rw[List.foldl_cons,List.length_cons];lia
def aeQ(ps:List (Str×Rat)):Prop:=∀as a bs,ps=as++a::bs->Bq (zR (jO as) a.1)/\Bq a.2/\Bd (((zR (jO as) a.1).den:Int)*a.2.den)
def Aq(ps:List (Str×Rat)):List (Str×Rat):=(jO ps).filter λp=>!decide (p.2=0)
def vm:ST:=λts q=>∃ps:List (Str×Rat),ts=[.lst (ps.map wyT)]/\ps.length<=1000/\aeQ ps/\q (.l1 ((Aq ps).map wyT))
def Hq(T:Tx D)(T7:gT 3 Nv Ar Wh)(F:Fu pN mQ f fd):FT 4 f fd jm vm:=by
 refine F.okT Gz λai A outer s H E hr nd=>?_;refine⟨_,(bC (jL 1 N8)
  (bC (eV (cR (qv 0)) (fW (n:=2) (bT (bW (n:=99) 2) (bT (bW (n:=99) 3) dO)))
  (bG (Lj 1 (za hr) (bH T7 (bw (adv 1 (za hr) (qv 2) (jY T.i_ T.gQ)) (bw (qv 3) bA))) (qv 2))))
  (bG (acq 1 (bF mQ) yX ["pairs","chances","?room","chance"] ["room"] (g_ (i:=0)) (VH (b_ (mj hr.units) (Oh (za hr) (qv 2) (qv 0)) (jY T.i_ T.gQ))) (cX (bw (qv 0) (bw (Oh (za hr) (qv 2) (qv 0)) bA))))))),?_⟩
 rintro _ R ⟨ps,rfl,pl,hb,q⟩;refine jc wyT ps (λas o=>∃x y,o=[.fz (.lst (ps.map wyT)),.d1 (wKs (jO as)) (wTs (jO as)),x,y]) ⟨_,_,rfl⟩ ?_ ?_
 .rintro as a bs _ e ⟨x,y,rfl⟩;obtain⟨h1,h2,h3⟩:=hb as a bs e;refine⟨rfl,_,rfl,zR (jO as) a.1,a.2,ZH (λt=>[t,frR a.2]) (acC (jO as) a.1),h1,h2,h3,_,rfl,?_,.fz (.str a.1),.fz (frR a.2),?_⟩
  .have:=KZ as;have:as.length<=ps.length:=by rw[e];simp
   rw[ak];exact Y3 (show _<=1000 by lia) (by decide)
  .obtain⟨k1,k2⟩:=aib (jO as) a (QF as);rw[show jO (as++[a])=addW (jO as) a from by rw[Xw];rfl,<- k1,<- k2]
   rfl
 .rintro _ ⟨x,y,rfl⟩;have jl:=KZ ps;refine⟨by rw[ak];exact aL (show _<=1000 by exact aL jl pl) (by decide),?_⟩;rw[show(wKs (jO ps)).map kT=(jO ps).map λp=>.str p.1 from WS];refine qd (λp=>.str p.1) (λp=>!decide (p.2=0)) wyT (jO ps) (λp hp N M hN hM=>?_) ?_
  rotate_left
  .exact q
  have ev:pC (wKs (jO ps)) (wTs (jO ps)) (.inr p.1)=some (frR p.2):=by rw[Uk,VF (QF ps) hp rfl];rfl
  refine⟨_,_,rfl,ev,?_⟩;have ez:(decide (p.2.num=0)&&decide ((p.2.den:Int)=1))=decide (p.2=0):=by
   by_cases z:p.2=0
   .rw[z];decide
   .rw[Zp z,Zp λy=>z (Rat.num_eq_zero.mp y)];rfl
  refine sw2 (λh=>⟨_,_,rfl,ev,hN ?_⟩) λh=>hM ?_
  .rw[<- h];exact ZH (λb=>!b) ez.symm
  .rw[<- h];exact ZH (λb=>!b) ez.symm
abbrev tK:Θ:=["name","pay","leads"]
abbrev drT(C:Addr)(n:Str)(p:Rat)(ws:List (Str×Rat)):T:=.ins C tK [.str n,frR p,.lst (ws.map wyT)]
def O9(D:Adr):SI:=λC ks ts as R=>∃(n:Str)(p:Rat),ks=[]/\ts=[]/\Fam D C/\as=[.str n,frR p]/\Wd n/\R tK [.str n,frR p,.lst []]
def Mh(T:Tx D)(jB:gT 3 mW iC qJ)(F:Fun K Cj Bx vH f fd):dI P w K mg base CX0 4 f fd jD (spI K (O9 D)):=by
 refine F.okI Mx (λC ks ts as R hP=>by obtain⟨n,p,_,_,_,e,_⟩:=hP;exact e ▸ rfl) (by decide) λai A outer s H E hr nd=>?_;refine⟨_,(bC (lN (bH jB (bw (qv 1) (bw (qv 2) bA))))
  (bC (p7 (Fm:=Fam D) 0 (λC h=>⟨T.cl C h,T.Ge C h⟩) (qv 1))
  (bC (p7 (Fm:=Fam D) 0 (λC h=>⟨T.cl C h,T.aa3 C h⟩) (qv 2))
  (bG (p7 (Fm:=Fam D) 0 (λC h=>⟨T.cl C h,T.Bj C h⟩) (dz bA)))))),?_⟩
 rintro a dx C _ _ _ R ⟨n,p,rfl,rfl,hC,rfl,hw,q⟩;exact⟨_,_,rfl,hw,⟨hC,by decide⟩,⟨hC,by decide⟩,⟨hC,by decide⟩,_,_,rfl,q⟩
def abB(D:Adr):Fam D D.Sure:=by simp[Fam]
def W6(D:Adr):Fam D D.Mixed:=by simp[Fam]
def abp(D:Adr):Fam D D.Toss:=by simp[Fam]
def abI(D:Adr):Fam D D.Even:=by simp[Fam]
def Ai(D:Adr):Fam D D.Hall:=by simp[Fam]
def Wr(D:Adr):SI:=λC ks ts as R=>∃(n m:Str)(p:Rat),ks=[]/\ts=[]/\Fam D C/\as=[.str n,frR p,.str m]/\Wd n/\Wd m/\R tK [.str n,frR p,.lst ([(m,1)].map wyT)]
def Nz(T:Tx D)(kZ:OkI P w K mg base CX0 4 D.Door_init jD (spI K (O9 D)))(eG:gT 2 iu dZ j9)(F:Fun K BP Bo wH f fd):dI P w K mg base CX0 5 f fd lW (spI K (Wr D)):=by
 refine F.okI MN (λC ks ts as R hP=>by obtain⟨n,p,_,_,_,_,e,_⟩:=hP;exact e ▸ rfl) (by decide) λai A outer s H E hr nd=>?_;refine⟨_,(bC (Gh 0 T.z_ kZ T.abR (bw (qv 1) (bw (qv 2) bA)))
  (bC (lN (bH eG (bw (qv 3) bA)))
  (bG (p7 (Fm:=Fam D) 0 (λC h=>⟨T.cl C h,T.Bj C h⟩) (dz (bw (cX (bw (qv 3) (bw (jY T.yP T.qM) bA))) bA)))))),?_⟩
 rintro a dx C _ _ _ R ⟨n,m,p,rfl,rfl,hC,rfl,hw,hm,q⟩;exact⟨_,_,rfl,rfl,hC,rfl,hw,_,rfl,hm,⟨hC,by decide⟩,_,_,rfl,q⟩
structure Prs(ps:List (Str×Rat)):Prop where
 few:ps.length<=1000
 ok:∀p∈ps,Wd p.1/\Ch p.2
 bd:Bd (iQ 1 (ps.map (·.2)):Nat)
 one:B_ (ps.map (·.2))=1
 jb:aeQ ps
def Ca(D:Adr):SI:=λC ks ts as R=>∃(n:Str)(p:Rat)(ps:List (Str×Rat)),ks=[]/\ts=[]/\Fam D C/\as=[.str n,frR p,.lst (ps.map wyT)]/\Wd n/\Prs ps/\R tK [.str n,frR p,.lst ((Aq ps).map wyT)]
def Kl(T:Tx D)(kZ:OkI P w K mg base CX0 4 D.Door_init jD (spI K (O9 D)))(ql:gT 4 pL ji vZ)(qw:gT 4 pN jm vm)(F:Fun K yN yM tZ f fd):dI P w K mg base CX0 5 f fd gB (spI K (Ca D)):=by
 refine F.okI Jr (λC ks ts as R hP=>by obtain⟨n,p,_,_,_,_,e,_⟩:=hP;exact e ▸ rfl) (by decide) λai A outer s H E hr nd=>?_;refine⟨_,(bC (Gh 0 T.z_ kZ T.abR (bw (qv 1) (bw (qv 2) bA)))
  (bC (lN (bH ql (bw (qv 3) bA)))
  (bG (p7 (Fm:=Fam D) 0 (λC h=>⟨T.cl C h,T.Bj C h⟩) (bH qw (bw (qv 3) bA)))))),?_⟩
 rintro a dx C _ _ _ R ⟨n,p,ps,rfl,rfl,hC,rfl,hw,h,q⟩;exact⟨_,_,rfl,rfl,hC,rfl,hw,_,rfl,h.few,h.ok,h.bd,h.one,_,rfl,h.few,h.jb,⟨hC,by decide⟩,_,_,rfl,q⟩
def Wz(D:Adr):SI:=λC ks ts as R=>∃(n x y:Str)(p c:Rat),ks=[]/\ts=[]/\Fam D C/\as=[.str n,frR p,frR c,.str x,.str y]/\Wd n/\Ch c/\Prs [(x,c),(y,1-c)]/\R tK [.str n,frR p,.lst ((Aq [(x,c),(y,1-c)]).map wyT)]
def L_(T:Tx D)(jB:gT 3 mW iC qJ)(gO:gT 3 jZ fX nH)(n_:gT 3 wY pq Bb)(eZ:OkI P w K mg base CX0 5 D.Mixed_init gB (spI K (Ca D)))(F:Fun K Ax Bv wZ f fd):dI P w K mg base CX0 6 f fd lR (spI K (Wz D)):=by
 refine F.okI Nm (λC ks ts as R hP=>by obtain⟨n,_,_,p,_,_,_,_,e,_⟩:=hP;exact e ▸ rfl) (by decide) λai A outer s H E hr nd=>?_;refine⟨_,(bC (lN (bH jB (bw (qv 1) (bw (qv 2) bA))))
  (bC (lN (bH gO (bw (qv 3) bA)))
  (bG (Gh 0 T.yH eZ T.Px (bw (qv 1) (bw (qv 2) (bw (dz (bw (cX (bw (qv 4) (bw (qv 3) bA))) (bw (cX (bw (qv 5) (bw (bH n_ (bw (jY T.yP T.qM) (bw (qv 3) bA))) bA))) bA))) bA))))))),?_⟩
 rintro a dx C _ _ _ R ⟨n,x,y,p,c,rfl,rfl,hC,rfl,hw,hc,h,q⟩;refine⟨_,_,rfl,hw,_,rfl,hc,1,c,rfl,bq1,hc.bq,?_,n,p,_,rfl,rfl,hC,rfl,hw,h,_,_,rfl,q⟩;rw[show(((1:Rat).den:Nat):Int)*(c.den:Int)=(c.den:Int)from UH _];exact hc.2.2
def even(bv:Θ):List (Str×Rat):=bv.map λr=>(r,mkRat 1 bv.length)
def Uu{n:Nat}(h:0<n):frR (mkRat 1 n)=.tup [.int 1,.int (n:Nat)]:=by
 have:mkRat 1 n=⟨1,n,by exact VW h,by show Nat.Coprime 1 n;exact Nat.coprime_one_left n⟩:=by
  rw[Rat.mk_eq_divInt];rfl
 rw[this]
def Vp(D:Adr):SI:=λC ks ts as R=>∃(n:Str)(p:Rat)(bv:Θ),ks=[]/\ts=[]/\Fam D C/\as=[.str n,frR p,.lst (bv.map T.str)]/\Wd n/\Prs (even bv)/\R tK [.str n,frR p,.lst ((Aq (even bv)).map wyT)]
def Ly(T:Tx D)(eZ:OkI P w K mg base CX0 5 D.Mixed_init gB (spI K (Ca D)))(F:Fun K Cq Cy pX f fd):dI P w K mg base CX0 6 f fd lD (spI K (Vp D)):=by
 refine F.okI Mp (λC ks ts as R hP=>by obtain⟨n,p,_,_,_,_,e,_⟩:=hP;exact e ▸ rfl) (by decide) λai A outer s H E hr nd=>?_;refine⟨_,(bG (Gh 0 T.yH eZ T.Px (bw (qv 1) (bw (qv 2) (bw (fM (bF pX) vG vG ["room"] (cR (qv 3)) (g_ (i:=0)) cJ (cX (bw (qv 0) (bw (cX (bw bx (bw (bL cH T.dg WP (bw (qv 4) bA)) bA))) bA)))) bA))))),?_⟩;rintro a dx C _ _ _ R ⟨n,p,bv,rfl,rfl,hC,rfl,hw,h,q⟩;have hl:bv.length<=1000:=by have:=h.few;rwa[even,ak]at this
 refine⟨by rw[ak];exact aL hl (by decide),comp_map L2.T.str (λr=>wyT (r,mkRat 1 bv.length)) bv (λr hr N M hN=>?_) ⟨n,p,even bv,rfl,rfl,hC,?_,hw,h,_,_,rfl,q⟩⟩
 .rw[show wyT (r,mkRat 1 bv.length)=.tup [.str r,frR (mkRat 1 bv.length)]from rfl,Uu (List.length_pos_of_mem hr),<- ak (f:=L2.T.str)]at hN;exact hN
 .unfold even;rw[WS]
  rfl
def Bg(D:Adr):ST:=λts q=>∃(C:Addr)(n:Str)(p:Rat)(ws:List (Str×Rat)),ts=[drT C n p ws]/\Fam D C/\q (.l1 (ws.map wyT))
def OJ(T:Tx D)(F:Fun K Ay Ci uL f fd):FT 1 f fd lB (Bg D):=by
 refine F.okT Ou λai A outer s H E hr nd=>?_;refine⟨_,(bG (bM (jJ yu T.tH boot_list (bw (rT (Fm:=Fam D) (λC h=>⟨T.cl C h,T.Bj C h⟩) (qv 0)) bA)))),?_⟩;rintro _ R ⟨C,n,p,ws,rfl,hC,q⟩;exact⟨hC,_,rfl,q⟩
structure cg where
 name:Str
 pay:Rat
 ways:List (Nat×Rat)
abbrev nwT(p:Nat×Rat):T:=.tup [.int (p.1:Nat),frR p.2]
abbrev ofT(o:cg):T:=.tup [.str o.name,frR o.pay,.lst (o.ways.map nwT)]
abbrev iV:Θ:=["share","numbers","offered"]
abbrev nmK(ns:Θ):List Key:=ns.map Sum.inr
abbrev nmT(ns:Θ):List T:=(List.range ns.length).map λk:Nat=>.int k
abbrev hlT(D:Adr)(s:Rat)(ns:Θ)(off:List (List cg)):T:=.ins D.Hall iV [frR s,.dct (nmK ns) (nmT ns),.lst (off.map λds=>.lst (ds.map ofT))]
def wg:ST:=λts q=>∃r:Rat,ts=[frR r]/\0<=r/\r<1/\Bq r/\q (.fz .non)
def G6(T:Tx D)(iw:gT 2 m5 jt pY)(pW:gT 1 Aj rH HW)(F:Fu pJ qH f fd):FT 3 f fd iZ wg:=by
 refine F.okT GK λai A outer s H E hr nd=>?_;refine⟨_,(bG (cB (QW.qt (jV (dW (dN (bH iw (bw (qv 0) bA)))) (jV (dN (bH pW (bw (qv 0) (bw (jY T.i_ T.gQ) bA)))) (iM (dW (dN (bH pW (bw (qv 0) (bw (jY T.yP T.qM) bA)))))))))
  (bG f9)
  bR)),?_⟩
 rintro _ R ⟨r,rfl,h0,h1,hb,q⟩;refine⟨_,rfl,r,0,rfl,hb,bq0,?_⟩;rw[Zp (Rat.not_lt.mpr h0)];refine⟨r,1,rfl,hb,bq1,?_⟩;rw[Zs h1];exact q
def abC(ns:Θ)(n:Str)(h:n∉ns):Qc (nmK ns) (.inr n)=false:=by
 unfold Qc;rw[List.any_map];exact List.any_eq_false.mpr λx hx z=>h ((Sum.inr.inj (of_decide_eq_true z)) ▸ hx)
theorem Ub{α:Type}(n:Str):∀(ns:Θ)(ts:List α),n∉ns->pC (nmK ns) ts (.inr n)=none
 |[],_,_=>rfl
 |_::_,[],_=>rfl
 |m::ns,t::ts,h=>by
  show(if(Sum.inr m:Key)=.inr n then some t else pC (nmK ns) ts (.inr n))=none;rw[ZZ λz=>h (by rw[Sum.inr.inj z];exact aO ..)];exact Ub n ns ts λz=>h (aJ _ z)
theorem WM{α:Type}{n:Str} : ∀{ns:Θ}{ts:List α}{k:Nat}{t:α},ns.Nodup->ns[k]?=some n->ts[k]?=some t->pC (nmK ns) ts (.inr n)=some t
 |[],_,_,_,_,e,_=>by cases e
 |m::ns,[],_,_,_,_,e=>by cases e
 |m::ns,u::ts,k,t,nd,e1,e2=>by
  obtain⟨n1,n2⟩:=List.nodup_cons.mp nd;show(if(Sum.inr m:Key)=.inr n then some u else pC (nmK ns) ts (.inr n))=some t;cases k with
  |zero=>cases e1;cases e2;exact ZY rfl
  |succ k =>
   have gp:ns[k]?=some n:=by simpa using e1
   rw[ZZ λ(z:(Sum.inr m:Key)=.inr n)=>n1 (by rw[Sum.inr.inj z];exact aC gp)];exact WM n2 gp (by simpa using e2)
def agC(ns:Θ)(n:Str)(h:n∉ns):kpK (nmK ns) (.inr n)=nmK (ns++[n])/\kpT (nmK ns) (nmT ns) (.inr n) (.int (ns.length:Nat))=nmT (ns++[n]):=by
 unfold kpK kpT;rw[abC ns n h];refine⟨by rw[ZZ (by decide)];simp[nmK],?_⟩;rw[ZZ (by decide)];simp only[nmT,aA,List.length_singleton,List.range_succ,bf,List.map_singleton]
abbrev rmT(p:Str×List T):T:=.tup [.str p.1,.lst p.2]
def yI:ST:=λts q=>∃fF:List (Str×List T),ts=[.lst (fF.map rmT)]/\fF.length<=1000/\(∀p∈fF,Wd p.1)/\(fF.map (·.1)).Nodup/\q (.d1 (nmK (fF.map (·.1))) (nmT (fF.map (·.1))))
def Kc(T:Tx D)(jA:gT 1 pF kW sY)(F:Fu qK um f fd):FT 2 f fd jU yI:=by
 refine F.okT JX λai A outer s H E hr nd=>?_;refine⟨_,(bC (jL 1 N8)
  (bC (eV (cR (qv 0)) (bW (n:=99) 2)
  (bC (bQ 3 (bI (qv 2) bx))
  (bC (cB (QW.qt (jV (dW (dN (bH jA (bw (qv 3) bA)))) (iM (Ti 1 (Z0 (za hr) (qv 3) (qv 1))))))
  (bG f9)
  bR)
  (bG (Lj 1 (za hr) (Tn 1 (bL Wi T.dg WP (bw (qv 1) bA))) (qv 3))))))
  (bG (oH 1)))),?_⟩
 rintro _ R ⟨fF,rfl,rl,hw,nd,q⟩;refine jc rmT fF (λas o=>∃x y,o=[.fz (.lst (fF.map rmT)),.d1 (nmK (as.map (·.1))) (nmT (as.map (·.1))),x,y]) ⟨_,_,rfl⟩ ?_ ?_
 .rintro as a bs _ e ⟨x,y,rfl⟩;have na:a.1∉as.map (·.1):=by
   rw[e,bf,List.map_cons]at nd;exact λz=>(List.nodup_append.mp nd).2.2 a.1 z a.1 (aO ..) rfl
  have al:as.length<=fF.length:=by rw[e];simp
  refine⟨_,rfl,hw a (e ▸ by simp),_,rfl,?_⟩;rw[Ub a.1 _ _ na];refine⟨trivial,_,rfl,by rw[ak,ak];exact Y3 (show _<=1000 by exact aL al rl) (by decide),.fz (rmT a),.fz (.str a.1),?_⟩;obtain⟨k1,k2⟩:=agC (as.map (·.1)) a.1 na;rw[bf,List.map_singleton,<- k1,<- k2];simp only[ak]
  rfl
 .rintro _ ⟨x,y,rfl⟩;exact q
structure NWk(ns:Θ)(us:List (Nat×Rat)):Prop where
 few:us.length<=1000
 lt:∀p∈us,p.1<ns.length
abbrev RV(ns:Θ)(us:List (Nat×Rat)):List (Str×Rat):=us.map λp=>(ns.getD p.1 ⟨#[]⟩,p.2)
def rK(D:Adr):ST:=λts q=>∃(C:Addr)(n:Str)(p:Rat)(ns:Θ)(us:List (Nat×Rat)),ts=[drT C n p (RV ns us),.dct (nmK ns) (nmT ns)]/\dB D C/\ns.Nodup/\NWk ns us/\q (.l1 (us.map nwT))
def CW(T:Tx D)(vP:gI 1 D.Door_ways lB (Bg D))(F:Fu mJ nU f fd):FT 2 f fd gM (rK D):=by
 refine F.okT Dm λai A outer s H E hr nd=>?_;refine⟨_,(bC (jL 2 (dz bA))
  (bC (eV (cR (QE.any λC(hC:dB D C)=>pO (qv 0) (T.cl C hC.fam) (T.N_ C hC) vP (KS:=tK))) (fW (n:=2) (bT (bW (n:=99) 3) (bT (bW (n:=99) 4) dO)))
  (bC (cB (Ys (za hr) (qv 3) (qv 1))
  (bG f9)
  bR)
  (bG (tY 2 (cX (bw (Oh (za hr) (qv 1) (qv 3)) (bw (qv 4) bA)))))))
  (bG (oH 2)))),?_⟩
 rintro _ R ⟨C,n,p,ns,us,rfl,hC,nd,hu,q⟩;refine⟨C,hC,⟨rfl,rfl⟩,C,n,p,_,rfl,hC.fam,?_⟩;show zc _ _ _ (List.map wyT (RV ns us)) _;rw[show(RV ns us).map wyT=us.map λp=>wyT (ns.getD p.1 ⟨#[]⟩,p.2)from WS];refine jc (λp=>wyT (ns.getD p.1 ⟨#[]⟩,p.2)) us (λas o=>∃x y,o=[.fz (drT C n p (RV ns us)),.fz (.dct (nmK ns) (nmT ns)),.l1 (as.map nwT),x,y]) ⟨_,_,rfl⟩ ?_ ?_
 .rintro as a bs _ e ⟨x,y,rfl⟩;have lt:=hu.lt a (e ▸ by simp);have al:as.length<us.length:=by rw[e];simp
  have few:=hu.few;have en:ns[a.1]?=some (ns.getD a.1 ⟨#[]⟩):=by rw[au,aj lt];rfl
  have ev:pC (nmK ns) (nmT ns) (.inr (ns.getD a.1 ⟨#[]⟩))=some (.int (a.1:Nat)):=WM nd en (by rw[aq,VQ lt];rfl);refine⟨rfl,_,rfl,?_⟩;rw[ev];refine⟨_,_,rfl,ev,by rw[ak];exact Y3 (show _<=1000 by exact aL (Y2 al) few) (by decide),.fz (.str (ns.getD a.1 ⟨#[]⟩)),.fz (frR a.2),?_⟩;rw[bf]
  rfl
 .rintro _ ⟨x,y,rfl⟩;exact q
structure Made where
 cls:Addr
 of:cg
abbrev mdT(ns:Θ)(m:Made):T:=drT m.cls m.of.name m.of.pay (RV ns m.of.ways)
structure Mds(D:Adr)(ns:Θ)(ds:List Made):Prop where
 few:ds.length<=1000
 cls:∀m∈ds,dB D m.cls
 ways:∀m∈ds,NWk ns m.of.ways
 nd:(ds.map λm=>m.of.name).Nodup
def acN(ns:Θ)(n:Str)(h:n∉ns):kpK (nmK ns) (.inr n)=nmK (ns++[n])/\kpT (nmK ns) (ns.map λ_=>L2.T.bl true) (.inr n) (.bl true)=(ns++[n]).map λ_=>L2.T.bl true:=by
 unfold kpK kpT;rw[abC ns n h];refine⟨by rw[ZZ (by decide)];simp[nmK],?_⟩;rw[ZZ (by decide)];simp
def Ck(D:Adr):ST:=λts q=>∃(ns:Θ)(ds:List Made),ts=[.lst (ds.map (mdT ns)),.dct (nmK ns) (nmT ns)]/\ns.Nodup/\Mds D ns ds/\q (.l1 (ds.map λm=>ofT m.of))
def Ma(T:Tx D)(nQ:gT 2 mJ gM (rK D))(F:Fu sW vA f fd):FT 3 f fd lX (Ck D):=by
 refine F.okT Mj λai A outer s H E hr nd=>?_;refine⟨_,(bC (jL 2 N8)
  (bC (jL 3 (dz bA))
  (bC (eV (cR (qv 0)) (bW (n:=99) 4)
  (bC (cB (Ti 2 (Z0 (za hr) (rT (Fm:=Fam D) (λC h=>⟨T.cl C h,T.Ge C h⟩) (qv 4)) (qv 2)))
  (bG f9)
  bR)
  (bC (Lj 2 (za hr) k_ (rT (Fm:=Fam D) (λC h=>⟨T.cl C h,T.Ge C h⟩) (qv 4)))
  (bG (tY 3 (cX (bw (rT (Fm:=Fam D) (λC h=>⟨T.cl C h,T.Ge C h⟩) (qv 4)) (bw (rT (Fm:=Fam D) (λC h=>⟨T.cl C h,T.aa3 C h⟩) (qv 4)) (bw (bH nQ (bw (qv 4) (bw (qv 1) bA))) bA)))))))))
  (bG (oH 3))))),?_⟩
 rintro _ R ⟨ns,ds,rfl,nd,hd,q⟩;refine jc (mdT ns) ds (λas o=>∃x,o=[.fz (.lst (ds.map (mdT ns))),.fz (.dct (nmK ns) (nmT ns)),.d1 (nmK (as.map λm=>m.of.name)) ((as.map λm=>m.of.name).map λ_=>.bl true),.l1 (as.map λm=>ofT m.of),x]) ⟨_,rfl⟩ ?_ ?_
 .rintro as a bs _ e ⟨x,rfl⟩;have na:a.of.name∉as.map λm=>m.of.name:=by
   have nd:=hd.nd;rw[e,bf,List.map_cons]at nd;exact λz=>(List.nodup_append.mp nd).2.2 _ z _ (aO ..) rfl
  have al:as.length<ds.length:=by rw[e];simp
  have few:=hd.few;have ma:a∈ds:=e ▸ by simp
  have hc:=hd.cls a ma;refine⟨hc.fam,_,rfl,_,rfl,?_⟩;rw[Ub _ _ _ na];refine⟨hc.fam,_,rfl,_,rfl,by rw[ak,ak];exact Y3 (show _<=1000 by exact aL (Y2 al) few) (by decide),hc.fam,_,rfl,hc.fam,_,rfl,_,_,_,ns,a.of.ways,rfl,hc,nd,hd.ways a ma,by rw[ak];exact Y3 (show _<=1000 by exact aL (Y2 al) few) (by decide),.fz (mdT ns a),?_⟩;obtain⟨k1,k2⟩:=acN (as.map λm=>m.of.name) a.of.name na;rw[show(as++[a]).map (λm=>m.of.name)=as.map (λm=>m.of.name)++[a.of.name]from bf,<- k1,<- k2,bf]
  rfl
 .rintro _ ⟨x,rfl⟩;exact q
structure aeH(D:Adr)(ns:Θ)(ae:List (List Made)):Prop where
 len:ae.length=ns.length
 few:ns.length<=1000
 wd:∀n∈ns,Wd n
 nd:ns.Nodup
 mds:∀ds∈ae,Mds D ns ds
abbrev zK(ns:Θ)(ae:List (List Made)):List T:=(ns.zip ae).map λp=>rmT (p.1,p.2.map (mdT ns))
abbrev offs(ae:List (List Made)):List (List cg):=ae.map λds=>ds.map λm=>m.of
def WY(D:Adr):SI:=λC ks ts as R=>∃(s:Rat)(ns:Θ)(ae:List (List Made)),C=D.Hall/\ks=[]/\ts=[]/\as=[frR s,.lst (zK ns ae)]/\0<=s/\s<1/\Bq s/\aeH D ns ae/\R iV [frR s,.dct (nmK ns) (nmT ns),.lst ((offs ae).map λds=>.lst (ds.map ofT))]
def Mg(T:Tx D)(qW:gT 3 pJ iZ wg)(t_:gT 2 qK jU yI)(xW:gT 3 sW lX (Ck D))(F:Fun K CJ z6 pR f fd):dI P w K mg base CX0 4 f fd lU (spI K (WY D)):=by
 refine F.okI Nf (λC ks ts as R hP=>by obtain⟨n,p,_,_,_,_,e,_⟩:=hP;exact e ▸ rfl) (by decide) λai A outer s H E hr nd=>?_;refine⟨_,(bC (lN (bH qW (bw (qv 1) bA)))
  (bC (p7 (Fm:=Fam D) 0 (λC h=>⟨T.cl C h,T.I9 C h⟩) (qv 1))
  (bC (p7 (Fm:=Fam D) 0 (λC h=>⟨T.cl C h,T.zB C h⟩) (bH t_ (bw (qv 2) bA)))
  (bG (p7 (Fm:=Fam D) 0 (λC h=>⟨T.cl C h,T.Ig C h⟩) (fM (bF pR) wW wW ["room"] (cR (qv 2)) (g_ (i:=0)) cJ (bH xW (bw (bI (qv 0) bx) (bw (ac3 (Fm:=Fam D) 1 (λC h=>⟨T.cl C h,T.zB C h⟩)) bA))))))))),?_⟩
 rintro a dx C _ _ _ R ⟨s,ns,ae,rfl,rfl,rfl,rfl,s0,s1,sb,h,q⟩;have z1:(ns.zip ae).map (·.1)=ns:=List.map_fst_zip (by have:=h.len;exact WG (Eq.symm this));have z2:(ns.zip ae).map (·.2)=ae:=List.map_snd_zip (by have:=h.len;exact WG this);have zl:(ns.zip ae).length=ns.length:=by rw[VV,h.len,Up]
 have hf:=Ai D;have few:=h.few;refine⟨_,rfl,s0,s1,sb,⟨hf,by decide⟩,(ns.zip ae).map λp=>(p.1,p.2.map (mdT ns)),by rw[WS];rfl,by rw[ak,zl];exact few,λp hp=>?_,?_,⟨hf,by decide⟩,?_⟩
 .obtain⟨x,hx,rfl⟩:=YV.mp hp;exact h.wd x.1 (z1 ▸ YV.mpr ⟨x,hx,rfl⟩)
 .rw[WS];exact z1.symm ▸ h.nd
 .rw[show((ns.zip ae).map λp=>(p.1,p.2.map (mdT ns))).map (·.1)=ns from List.map_map.trans z1];refine⟨by rw[ak,zl];exact aL few (by decide),comp_map (λp=>rmT (p.1,p.2.map (mdT ns))) (λp=>.lst (p.2.map λm=>ofT m.of)) (ns.zip ae) (λp hp N M hN=>?_) ⟨⟨hf,by decide⟩,_,_,rfl,?_⟩⟩
  .exact⟨hf,_,rfl,ns,p.2,rfl,h.nd,h.mds p.2 (z2 ▸ YV.mpr ⟨p,hp,rfl⟩),hN⟩
  .have:(ns.zip ae).map (λp=>L2.T.lst (p.2.map λm=>ofT m.of))=(offs ae).map λds=>.lst (ds.map ofT):=by
    rw[show(offs ae).map (λds=>L2.T.lst (ds.map ofT))=ae.map λds=>.lst (ds.map λm=>ofT m.of)from by simp[offs,WS,Function.comp_def]]
    conv=>rhs;rw[<- z2,WS]
    rfl
   rw[<- this]at q;exact q
structure Kq(ns:Θ)(off:List (List cg)):Prop where
 len:off.length=ns.length
 few:ns.length<=1000
 fews:∀ds∈off,ds.length<=1000
def gq(D:Adr):ST:=λts q=>∃(s:Rat)(ns:Θ)(off:List (List cg)),ts=[hlT D s ns off]/\q (.fz (.int (ns.length:Nat)))
def LR(T:Tx D)(F:Fun K Ad Ao uZ f fd):FT 1 f fd dJ (gq D):=by
 refine F.okT LK λai A outer s H E hr nd=>?_;refine⟨_,(bG (bM (bL Wi T.dg WP (bw (rT (Fm:=Fam D) (λC h=>⟨T.cl C h,T.zB C h⟩) (qv 0)) bA)))),?_⟩;rintro _ R ⟨s,ns,off,rfl,q⟩;refine⟨Ai D,_,rfl,?_⟩;rw[<- ak (f:=(Sum.inr:Str->Key))]at q;exact q
def qU(D:Adr):ST:=λts q=>∃(s:Rat)(ns:Θ)(off:List (List cg))(k:Nat),ts=[hlT D s ns off,.int k]/\k<ns.length/\q (.fz .non)
def JV(T:Tx D)(cG:gT 1 gU fG jg)(cu:gI 1 D.Hall_size dJ (gq D))(F:Fun K kJ j8 iU f fd):FT 2 f fd cT (qU D):=by
 refine F.okT oV λai A outer s H E hr nd=>?_;refine⟨_,(bG (cB (QW.qt (jV (dW (dN (bH cG (bw (qv 1) bA)))) (iM (dW (Hl HD uz bx (qv 1) (pO (qv 0) T.gJ T.jz cu (KS:=iV)))))))
  (bG f9)
  bR)),?_⟩
 rintro _ R ⟨s,ns,off,k,rfl,hk,q⟩;refine⟨_,_,rfl,rfl,⟨rfl,rfl⟩,_,_,_,rfl,?_⟩;show sw (!decide ((k:Int)<(ns.length:Nat))) _ _;rw[Zs (show(k:Int)<(ns.length:Nat)by lia)];exact q
def qX(D:Adr):ST:=λts q=>∃(s:Rat)(ns:Θ)(off:List (List cg))(k:Nat)(ds:List cg),ts=[hlT D s ns off,.int k]/\Kq ns off/\off[k]?=some ds/\q (.l1 (ds.map ofT))
def eE{α:Type}{l:List α}{h:α->T}{k:Nat}{a:α}(e:l[k]?=some a):ixT (l.map h) (k:Nat)=some (h a):=by
 show nth (l.map h) k=_;rw[qQ,aq,e];rfl
def Yq(T:Tx D)(eN:gI 2 D.Hall_check_room cT (qU D))(F:Fun K vD xG mY f fd):FT 3 f fd d_ (qX D):=by
 refine F.okT Jm λai A outer s H E hr nd=>?_;refine⟨_,(bC (lN (BK (qv 0) T.gJ T.kh eN (bw (qv 1) bA) (KS:=iV)))
  (bG (bM (fM (bF mY) qT qT ["name","pay","numbered"] (cR (bI (rT (Fm:=Fam D) (λC h=>⟨T.cl C h,T.Ig C h⟩) (qv 0)) (qv 1))) (fW (n:=3) (bT (g_ (i:=0)) (bT (g_ (i:=1)) (bT (g_ (i:=2)) dO)))) cJ (cX (bw (qv 0) (bw (qv 1) (bw (jJ yu T.tH boot_list (bw (qv 2) bA)) bA)))))))),?_⟩
 rintro _ R ⟨s,ns,off,k,ds,rfl,h,e,q⟩;have lk:k<ns.length:=by rw[<- h.len];exact(ao.mp e).1
 refine⟨⟨rfl,rfl⟩,s,ns,off,k,rfl,lk,Ai D,_,rfl,.lst (ds.map ofT),eE (h:=λds=>L2.T.lst (ds.map ofT)) e,by rw[ak];exact aL (h.fews ds (aC e)) (by decide),comp_map ofT ofT ds (λo _ N M hN=>⟨rfl,hN⟩) q⟩
def abj(m:Nat):List (List T):=(List.range m).map λi=>(List.range m).map λj=>frR (if j=i then 1 else 0)
def v9:ST:=λts q=>∃m:Nat,ts=[.int m]/\m<=100/\q (.l2 (abj m))
def Iu(T:Tx D)(F:Fu oU jW f fd):FT 1 f fd jx v9:=by
 refine F.okT Jh λai A outer s H E hr nd=>?_;refine⟨_,(bG (bM (Zv (bF jW) jR jR "row" (dG T.fj (bw (qv 0) bA)) Zz cJ (Oo (bF jW) ("row"::jR) ("row"::jR) ["column"] (dG T.fj (bw (qv 1) bA)) (g_ (i:=0)) cJ (Wx (b_ (go_eq hr.units) (qv 0) (qv 1)) (jY T.yP T.qM) (jY T.i_ T.gQ)))))),?_⟩;rintro _ R ⟨m,rfl,h,q⟩;have sz:(100:Nat)<=sizeLine:=by decide
 have rl:(rng 0 m).length<=sizeLine:=by rw[rng,ak,WJ];exact aL h sz
 refine⟨⟨by lia,by lia⟩,rl,Qz (λi=>(List.range m).map λj=>frR (if j=i then 1 else 0)) m (λi hi N M hN=>⟨⟨by lia,by lia⟩,rl,Gf (λj=>frR (if j=i then 1 else 0)) m (λj hj N M hN=>?_) hN⟩) q⟩;by_cases e:j=i
 .rw[ZY e]at hN;exact swT (Zs (by lia)) hN
 .rw[ZZ e]at hN;exact swF (Zp (by lia)) hN
def dT:Option Nat->T
 |none=>.non
 |some d=>.int d
def Ah:Option Nat->Nat->Bool
 |none,n=>decide (n=0)
 |some d,n=>decide (d<n)
structure PlT(off:List (List cg))(pl:List (Option Nat)):Prop where
 len:pl.length=off.length
 ok:∀(k:Nat)(d:Option Nat)(ds:List cg),pl[k]?=some d->off[k]?=some ds->Ah d ds.length=true
def M7:ST:=λts q=>∃(d:Option Nat)(n:Nat),ts=[dT d,.int n]/\q (.fz (.bl (Ah d n)))
def acF(T:Tx D)(cG:gT 1 gU fG jg)(F:Fu uc NQ f fd):FT 2 f fd oG M7:=by
 refine F.okT Vy λai A outer s H E hr nd=>?_;refine⟨_,(bC (cB (b_ (go_eq hr.units) (qv 1) bx)
  (bG (bM (mC TX (qv 0) iK)))
  bR)
  (bG (bM (xQ (bH cG (bw (qv 0) bA)) (zj (Ib HD uz bx (qv 0) (qv 1))))))),?_⟩
 rintro _ R ⟨d,n,rfl,q⟩;by_cases e:n=0
 .subst e;cases d with
  |none=>exact q
  |some d=>exact q
 .refine swF (Zp (by lia)) ?_;cases d with
  |none =>
   rw[show Ah none n=false from Zp e]at q;exact⟨_,_,rfl,rfl,q⟩
  |some d =>
   rw[show Ah (some d) n=decide ((d:Int)<(n:Int))from decide_eq_decide.mpr (by omega)]at q;exact⟨_,_,rfl,rfl,q⟩
def qL(D:Adr):ST:=λts q=>∃(s:Rat)(ns:Θ)(off:List (List cg))(pl:List (Option Nat)),ts=[hlT D s ns off,.lst (pl.map dT)]/\Kq ns off/\PlT off pl/\q (.fz (.bl true))
def yK(T:Tx D)(pA:gT 2 uc oG M7)(cu:gI 1 D.Hall_size dJ (gq D))(cN:gI 3 D.Hall_offers d_ (qX D))(F:Fu iG lJ f fd):FT 4 f fd fD (qL D):=by
 refine F.okT yR λai A outer s H E hr nd=>?_;refine⟨_,(bC (cB (QW.qt (jV (dW (dN (mF .list (qv 1) T.cW T.tH boot_list))) (iM (b_ (mj hr.units) (bL cH T.dg WP (bw (qv 1) bA)) (pO (qv 0) T.gJ T.jz cu (KS:=iV))))))
  (bG f9)
  bR)
  (bC (eV (BX T.nu (bw (qv 1) bA)) (fW (n:=2) (bT (bW (n:=99) 2) (bT (bW (n:=99) 3) dO)))
  (bG (cB (dW (dN (bH pA (bw (qv 3) (bw (bL cH T.dg WP (bw (BK (qv 0) T.gJ T.oN cN (bw (qv 2) bA) (KS:=iV)) bA)) bA)))))
  (bG f9)
  bR)))
  (bG (bM k_)))),?_⟩
 rintro _ R ⟨s,ns,off,pl,rfl,h,hp,q⟩;refine⟨⟨rfl,rfl⟩,_,_,_,rfl,swF ?_ ?_⟩
 .show xr true (decide ((((pl.map dT).length:Nat):Int)=(ns.length:Nat)))=false;rw[ak,hp.len,h.len,Zs rfl]
  rfl
 .refine yF dT pl (λk o=>∃x y,o=[.fz (hlT D s ns off),.fz (.lst (pl.map dT)),x,y]) ⟨_,_,rfl⟩ ?_ ?_
  .rintro k d _ e ⟨x,y,rfl⟩;have lk:k<off.length:=by rw[<- hp.len];exact(ao.mp e).1
   have ek:=aj lk;refine⟨rfl,⟨rfl,rfl⟩,_,_,_,k,_,rfl,h,ek,d,(off[k]).length,?_,?_⟩
   .show[dT d,L2.T.int ((((off[k]).map ofT).length:Nat):Int)]=_;rw[ak]
   .rw[hp.ok k d _ e ek];exact⟨_,_,rfl⟩
  .rintro _ ⟨x,y,rfl⟩;exact q
def chO(off:List (List cg))(pl:List (Option Nat)):List (Option cg):=pl.zipIdx.map λp=>p.1.bind λd=>(off.getD p.2 [])[d]?
def opT:Option cg->T
 |none=>.non
 |some o=>ofT o
def nR(D:Adr):ST:=λts q=>∃(s:Rat)(ns:Θ)(off:List (List cg))(pl:List (Option Nat)),ts=[hlT D s ns off,.lst (pl.map dT)]/\Kq ns off/\PlT off pl/\q (.l1 ((chO off pl).map opT))
def Fx(T:Tx D)(cN:gI 3 D.Hall_offers d_ (qX D))(F:Fu j5 lO f fd):FT 4 f fd fY (nR D):=by
 refine F.okT E_ λai A outer s H E hr nd=>?_;refine⟨_,(bG (bM (fM (bF lO) oY oY ["room","door"] (BX T.nu (bw (qv 1) bA)) (fW (n:=2) (bT (g_ (i:=0)) (bT (g_ (i:=1)) dO))) cJ (Wx (b_ TX (qv 1) iK) iK (bI (BK (qv 2) T.gJ T.oN cN (bw (qv 0) bA) (KS:=iV)) (qv 1)))))),?_⟩;rintro _ R ⟨s,ns,off,pl,rfl,h,hp,q⟩;refine⟨by unfold yW;rw[ak,Zxq,ak,hp.len,h.len];exact aL h.few (by decide),?_⟩;rw[abx];refine comp_map (λp=>.tup [.int (p.2:Nat),dT p.1]) (λp=>opT (p.1.bind λd=>(off.getD p.2 [])[d]?)) pl.zipIdx (λp hm N M hN=>⟨rfl,?a⟩) ?b
 case b =>
  unfold chO at q;rw[WS]at q;exact q
 case a =>
  obtain⟨d,k⟩:=p;have e:=List.mem_zipIdx_iff_getElem?.mp hm;have lk:k<off.length:=by rw[<- hp.len];exact(ao.mp e).1
  have ek:=aj lk;have eg:off.getD k []=off[k]:=by rw[au,ek];rfl
  have ft:=hp.ok k d _ e ek;cases d with
  |none=>exact hN
  |some d =>
   have ld:d<(off[k]).length:=of_decide_eq_true ft;have hN:N (opT ((off.getD k [])[d]?)):=hN;rw[eg,aj ld]at hN;exact⟨⟨rfl,rfl⟩,_,_,_,k,_,rfl,h,ek,_,eE (aj ld),hN⟩
open Rw (vr jy iT m6 gcL h_ gY qe lV Big pK jP mU j6 mK gw)
abbrev Row:=List Int×Int
abbrev rwT(r:Row):T:=.tup [.lst (r.1.map T.int),.int r.2]
def NN:Nat:=10^600
def afX{i:Int}(h:i.natAbs<=NN*NN*NN):Bd i:=Y3 h (by decide +kernel)
def bdN{i:Int}(h:i.natAbs<=NN):Bd i:=afX (aL h (by decide +kernel))
def adI{i:Int}(h:i.natAbs<=NN*NN):Bd i:=afX (aL h (by decide +kernel))
def acd{a b:Int}{m n:Nat}(h1:a.natAbs<=m)(h2:b.natAbs<=n):(a*b).natAbs<=m*n:=by rw[VU];exact VX h1 h2
def rE{a b:Int}(h:0<b):Int.fdiv a b=a/b:=Zyw _ (XY h)
def Dy:ST:=λts q=>∃r:Row,ts=[.lst (r.1.map T.int),.int r.2]/\0<r.2/\Bd r.2/\r.1.length<=1000/\q (.fz (rwT (jy r)))
def Xp(d7:gT 1 j_ cM mG)(F:Fu yx zV f fd):FT 2 f fd oK Dy:=by
 refine F.okT Yj λai A outer s H E hr nd=>?_;refine⟨_,(bC (bQ 2 (qv 1))
  (bC (eV (cR (qv 0)) (bW (n:=99) 3)
  (bG (bQ 2 (bH d7 (bw (qv 3) (bw (qv 2) bA))))))
  (bG (bM (cX (bw (fM (bF zV) Rn ["tops","bottom","common","?top"] ["top"] (cR (qv 0)) (g_ (i:=0)) cJ (bJ mH (qv 0) (qv 3))) (bw (bJ mH (qv 1) (qv 2)) bA))))))),?_⟩
 rintro _ R ⟨⟨tops,b⟩,rfl,hb,bb,tl,q⟩;have hb:0<b:=hb;have bb:Bd b:=bb;refine jc L2.T.int tops (λas o=>∃x,o=[.fz (.lst (tops.map L2.T.int)),.fz (.int b),.fz (.int (gcL as b)),x]) ⟨_,rfl⟩ ?_ ?_
 .rintro as a bs _ e ⟨x,rfl⟩;refine⟨_,_,rfl,.fz (.int a),?_⟩;rw[show gcL (as++[a]) b=((Int.gcd a (gcL as b):Nat):Int)from by unfold gcL;rw[List.foldl_append];rfl]
  rfl
 .rintro _ ⟨x,rfl⟩;have g0:=h_ (ts:=tops) hb;have g1:Bd (gcL tops b):=Ld (by have:=qe (ts:=tops) hb;omega) bb;refine⟨by rw[ak];exact aL tl (by decide),comp_map L2.T.int (λt=>.int (t/gcL tops b)) tops (λt ht N M hN=>⟨⟨by exact WU g0,g1⟩,?_⟩) ⟨⟨by exact WU g0,g1⟩,?_⟩⟩
  .rw[rE g0];exact hN
  .rw[rE g0];have:(jy (tops,b)).1.map L2.T.int=tops.map λt=>.int (t/gcL tops b):=WS;rw[<- this];exact q
structure Fn(c:Rat):Prop where
 n:c.num.natAbs<=NN
 d:c.den<=NN
abbrev pr(c:Rat):Int×Int:=(c.num,c.den)
def Ba:ST:=λts q=>∃(r:Row)(c:Rat),ts=[rwT r,frR c]/\Big NN r/\r.1.length<=1000/\Fn c/\q (.fz (rwT (jy (iT r (pr c)))))
def P_(T:Tx D)(rN:gT 2 yx oK Dy)(F:Fu uq pU f fd):FT 3 f fd lQ Ba:=by
 refine F.okT Mi λai A outer s H E hr nd=>?_;refine⟨_,(bG (bM (bH rN (bw (fM (bF pU) xX xX ["top"] (cR (bI (qv 0) bx)) (g_ (i:=0)) cJ (bJ dU (qv 0) (bI (qv 2) bx))) (bw (bJ dU (bI (qv 0) bx) (bI (qv 1) bx)) bA))))),?_⟩;rintro _ R ⟨r,c,rfl,hr,rl,hc,q⟩;have:=c.den_pos;have cd:((c.den:Nat):Int).natAbs<=NN:=hc.d;refine⟨by rw[ak];exact aL rl (by decide),comp_map L2.T.int (λt=>.int (t*c.num)) r.1 (λt ht N M hN=>⟨⟨bdN (hr.top t ht),bdN hc.n⟩,hN⟩) ⟨⟨bdN hr.bot,bdN cd⟩,iT r (pr c),?_,XZ hr.pos (show(0:Int)<(c.den:Nat)by lia),adI (acd hr.bot cd),by show(r.1.map _).length<=1000;rw[ak];exact rl,q⟩⟩;show _=[L2.T.lst ((r.1.map λt=>t*c.num).map L2.T.int),.int (r.2*c.den)];rw[WS]
 rfl
def D_:ST:=λts q=>∃(r o:Row)(c:Rat),ts=[rwT r,rwT o,frR c]/\Big NN r/\Big NN o/\r.1.length<=1000/\o.1.length=r.1.length/\Fn c/\q (.fz (rwT (jy (m6 r o (pr c)))))
def Qq(T:Tx D)(d7:gT 1 j_ cM mG)(rN:gT 2 yx oK Dy)(F:Fu uJ sE f fd):FT 3 f fd mZ D_:=by
 refine F.okT Ei λai A outer s H E hr nd=>?_;refine⟨_,(bC (bQ 3 (bJ dU (bI (qv 1) bx) (bI (qv 2) bx)))
  (bC (bQ 4 (bH d7 (bw (bI (qv 0) bx) (bw (qv 3) bA))))
  (bC (bQ 5 (bJ mH (qv 3) (qv 4)))
  (bC (bQ 6 (bJ dU (bJ mH (bI (qv 0) bx) (qv 4)) (bI (qv 2) bx)))
  (bC (sS (bF sE) zq zq ["one","another"] (Vl T.Wn (bw (bI (qv 0) bx) (bw (bI (qv 1) bx) bA))) (fW (n:=2) (bT (g_ (i:=0)) (bT (g_ (i:=1)) dO))) cJ (bJ cD (bJ dU (qv 0) (qv 7)) (bJ dU (qv 1) (qv 8))) (jC (i:=7) Ei.nd rfl (Or.inl rfl)))
  (bG (bM (bH rN (bw (qv 7) (bw (bJ dU (bI (qv 0) bx) (qv 5)) bA)))))))))),?_⟩
 rintro _ R ⟨r,o,c,rfl,hr,ho,rl,ol,hc,q⟩;have:=c.den_pos;have cd:((c.den:Nat):Int).natAbs<=NN:=hc.d;have hB:0<o.2*(c.den:Int):=XZ ho.pos (by lia);have bB:=acd ho.bot cd;have g0:=mL (a:=r.2) (WU hB);have gr:((Int.gcd r.2 (o.2*(c.den:Int)):Nat):Int)≠0:=by exact WU g0
 have gl:Int.gcd r.2 (o.2*(c.den:Int))<=r.2.natAbs:=UY (by have:=hr.pos;omega) (Int.gcd_dvd_natAbs_left ..);have gb:Bd ((Int.gcd r.2 (o.2*(c.den:Int)):Nat):Int):=bdN (by have:=hr.bot;lia);have d2:(o.2*(c.den:Int)/((Int.gcd r.2 (o.2*(c.den:Int)):Nat):Int)).natAbs<=NN*NN:=aL (Int.natAbs_ediv_le_natAbs _ _) bB;have d1:(r.2/((Int.gcd r.2 (o.2*(c.den:Int)):Nat):Int)).natAbs<=NN:=aL (Int.natAbs_ediv_le_natAbs _ _) hr.bot;refine⟨⟨bdN ho.bot,bdN cd⟩,_,_,rfl,⟨gr,gb⟩,⟨gr,gb⟩,⟨by rw[rE g0];exact bdN d1,bdN hc.n⟩,?_⟩;rw[rE g0,rE g0];refine⟨by unfold Jx;rw[ak,VV,ak,ak,ol,Up];exact aL rl (by decide),?_⟩;rw[zip_map];refine comp_map (λp=>.tup [.int p.1,.int p.2]) (λp=>.int (p.1*(o.2*(c.den:Int)/((Int.gcd r.2 (o.2*(c.den:Int)):Nat):Int))+p.2*(r.2/((Int.gcd r.2 (o.2*(c.den:Int)):Nat):Int)*c.num))) (r.1.zip o.1) (λp hp N M hN=>⟨rfl,⟨bdN (hr.top _ (UX hp).1),adI d2⟩,⟨bdN (ho.top _ (UX hp).2),adI (acd d1 hc.n)⟩,hN⟩) ⟨⟨bdN hr.bot,adI d2⟩,m6 r o (pr c),?_,?_,afX ?_,?_,q⟩
 .show _=[L2.T.lst ((List.zipWith _ r.1 o.1).map L2.T.int),_];rw[Zxw,List.zip,Zxw]
  rfl
 .exact XZ hr.pos (Zyq hB (XY g0) (JS ..))
 .rw[Nat.mul_assoc];exact acd hr.bot d2
 .show(List.zipWith _ r.1 o.1).length<=1000;rw[TZ,ol,Up];exact rl
open Rw (vr jy iT m6 gcL h_ gY qe lV Big pK jP mU j6 mK gw)
inductive Stp where
 |swap (i j:Nat)|times (i:Nat) (c:Rat)|add (i j:Nat) (c:Rat)
def stT:Stp->T
 |.swap i j=>.tup [.str "swap",.int i,.int j]
 |.times i c=>.tup [.str "times",.int i,frR c]
 |.add i j c=>.tup [.str "add",.int i,.int j,frR c]
def rAt(rs:List Row)(i:Nat):Row:=rs.getD i ([],1)
def uI(rs:List Row):Stp->List Row
 |.swap i j=>(rs.set i (rAt rs j)).set j (rAt rs i)
 |.times i c=>rs.set i (jy (iT (rAt rs i) (pr c)))
 |.add i j c=>rs.set i (jy (m6 (rAt rs i) (rAt rs j) (pr c)))
def aiG(n:Nat):Stp->Prop
 |.swap i j=>i<n/\j<n
 |.times i c=>i<n/\Fn c
 |.add i j c=>i<n/\j<n/\Fn c
def yd{rs:List Row}{i:Nat}(h:i<rs.length):rs[i]?=some (rAt rs i):=by
 unfold rAt;rw[au,aj h];rfl
def eY{rs:List Row}{i:Nat}(h:i<rs.length):rAt rs i∈rs:=aC (yd h)
def tX{n i:Nat}(h:i<n):ixN n ((i:Nat):Int)=some i:=by
 unfold ixN;rw[ZY (X9 _),ZY (by lia)];rfl
def sH{rs:List Row}{i:Nat}(h:i<rs.length):ixT (rs.map rwT) ((i:Nat):Int)=some (rwT (rAt rs i)):=eE (yd h)
structure Rws(rs:List Row)(wd:Nat):Prop where
 big:∀r∈rs,Big NN r
 wds:∀r∈rs,r.1.length=wd
 few:rs.length<=100
 wde:wd<=1000
def zW:SO:=λtss ts R=>∃(rs:List Row)(st:Stp)(wd:Nat),tss=[rs.map rwT]/\ts=[stT st]/\Rws rs wd/\aiG rs.length st/\R [(uI rs st).map rwT]
def MJ(T:Tx D)(wj:gT 3 uq lQ Ba)(zH:gT 3 uJ mZ D_)(F:Fu sJ uV f fd):dI P w K mg base CX0 4 f fd lH (spO K zW):=by
 refine F.okO Ni (λtss ts R ⟨rs,st,wd,e1,e2,_⟩=>by rw[e1,e2];rfl) (by decide) λai A outer s H E hr nd=>?_;refine⟨_,(bC (bQ 2 (nG 0 (bI (qv 1) bx)))
  (bG (cB (b_ (go_eq hr.units) (bI (qv 1) bx) j7)
  (bC (wO 0 (nG 0 (bI (qv 1) bx)) (bI (qv 1) bx))
  (bG (wO 0 (qv 2) (bI (qv 1) bx))))
  (bG (cB (b_ (go_eq hr.units) (bI (qv 1) bx) j7)
  (bG (wO 0 (bH wj (bw (qv 2) (bw (bI (qv 1) bx) bA))) (bI (qv 1) bx)))
  (bG (wO 0 (bH zH (bw (qv 2) (bw (nG 0 (bI (qv 1) bx)) (bw (bI (qv 1) bx) bA)))) (bI (qv 1) bx)))))))),?_⟩
 rintro as tss ts R tl ⟨rs,st,wd,rfl,rfl,h,hs,q⟩;obtain⟨a,rfl⟩ : ∃a,as=[a]:=by
  match as,tl with
  |[a],_=>exact⟨a,rfl⟩
 have aS:∀(L:List L2.T)(x y:OT),R [L]->∃bi,(∀j,slot [.la a L,x,y] j=slot (List.zipWith OT.la [a] bi) j\/[a].length<=j)/\bi.length=[a].length/\R bi:=λL x y q=>⟨[L],λj=>by
  cases j with
  |zero=>exact .inl rfl
  |succ j=>exact .inr (by simp),rfl,q⟩
 have lm:(rs.map rwT).length=rs.length:=ak _
 match st,hs,q with
 |.swap i j,hs,q =>
  refine⟨_,sH hs.1,_,sH hs.2,i,tX (lm ▸ hs.1),j,tX (by rw[WH,lm];exact hs.2),aS _ _ _ ?_⟩;rw[uI,Zzu,Zzu]at q;exact q
 |.times i c,hs,q =>
  have m:=eY hs.1;refine⟨_,sH hs.1,rAt rs i,c,rfl,h.big _ m,by rw[h.wds _ m];exact h.wde,hs.2,i,tX (lm ▸ hs.1),aS _ _ _ ?_⟩;rw[uI,Zzu]at q;exact q
 |.add i j c,hs,q =>
  have m:=eY hs.1;have n:=eY hs.2.1;refine⟨_,sH hs.1,_,sH hs.2.1,rAt rs i,rAt rs j,c,rfl,h.big _ m,h.big _ n,by rw[h.wds _ m];exact h.wde,by rw[h.wds _ m,h.wds _ n],hs.2.2,i,tX (lm ▸ hs.1),aS _ _ _ ?_⟩;rw[uI,Zzu]at q;exact q
open Rw (vr jy iT m6 gcL h_ gY qe lV Big pK jP mU j6 mK gw)
def tD:ST:=λts q=>∃(r:Row)(k:Nat),ts=[rwT r,.int k]/\k<r.1.length/\Big NN r/\q (.fz (frR (vr r k)))
def Mw(fB:gT 2 rD m_ uT)(F:Fu oE vJ f fd):FT 3 f fd jF tD:=by
 refine F.okT Pu λai A outer s H E hr nd=>?_;refine⟨_,(bG (bM (bH fB (bw (bI (bI (qv 0) bx) (qv 1)) (bw (bI (qv 0) bx) bA))))),?_⟩;rintro _ R ⟨r,k,rfl,hk,hr,q⟩;have h0:=hr.pos;refine⟨_,eE (aj hk),_,_,rfl,by exact WU h0,bdN hr.bot,λx y l=>?_⟩;rw[j4 l (WU h0),TW];unfold vr at q;rw[au,aj hk]at q;exact q
def uw:ST:=λts q=>∃(rs:List Row)(wd:Nat),ts=[.lst (rs.map rwT)]/\Rws rs wd/\q (.l1 (rs.map λr=>.lst ((List.range wd).map λk=>frR (vr r k))))
def Ft(fB:gT 2 rD m_ uT)(F:Fu nJ ju f fd):FT 3 f fd iz uw:=by
 refine F.okT Fy λai A outer s H E hr nd=>?_;refine⟨_,(bG (bM (Wm (bF ju) jw jw "row" (cR (qv 0)) Zz cJ (Oo (bF ju) ("row"::jw) ("row"::jw) ["top"] (cR (bI (qv 0) bx)) (g_ (i:=0)) cJ (bH fB (bw (qv 0) (bw (bI (qv 1) bx) bA))))))),?_⟩;rintro _ R ⟨rs,wd,rfl,h,q⟩;refine⟨by rw[ak];exact aL h.few (by decide),comp_map rwT (λr=>.lst ((List.range wd).map λk=>frR (vr r k))) rs (λr hr N M hN=>⟨by rw[ak,h.wds r hr];exact aL h.wde (by decide),?_⟩) q⟩;have hb:=h.big r hr;have h0:=hb.pos;refine comp_map T.int (λt=>frR ((t:Rat)/(r.2:Rat))) r.1 (λt ht N M hN=>⟨_,_,rfl,by exact WU h0,bdN hb.bot,λx y l=>by rw[j4 l (WU h0),TW];exact hN⟩) ?_;have e:(r.1.map λt:Int=>frR ((t:Rat)/(r.2:Rat)))=(List.range wd).map λk=>frR (vr r k):=by
  refine TU (by rw[ak,ak,WJ,h.wds r hr]) λn h1 h2=>?_;rw[ak]at h1;rw[UZ,UZ,QU];unfold vr;rw[au,aj h1]
  rfl
 rw[e];exact hN
def aaI{lo n i:Nat}{t:T}(e:(rng (lo:Nat) n)[i]?=some t):i<n/\t=.int ((lo+i:Nat):Int):=by
 unfold rng at e;rw[aq]at e;by_cases hi:i<n
 .rw[VQ hi]at e;cases e;exact⟨hi,rfl⟩
 .rw[aM (by simpa using hi)]at e;cases e
def abK{r:Row}{k:Nat}(h:0<r.2)(hk:k<r.1.length):vr r k=0↔r.1[k]=0:=by
 have e:vr r k=(r.1[k] : Rat)/(r.2:Rat):=by unfold vr;rw[au,aj hk];rfl
 have n:(r.2:Rat)≠0:=λz=>by have:=Rat.intCast_eq_zero_iff.mp z;lia
 rw[e];constructor
 .intro z;have:(r.1[k] : Rat)=0:=by grind
  exact Rat.intCast_eq_zero_iff.mp this
 .intro z;rw[z];grind
def yZ:ST:=λts R=>∃(rs:List Row)(wd p k:Nat),ts=[.lst (rs.map rwT),.int p,.int k]/\Rws rs wd/\p<=rs.length/\k<wd/\(∀q,p<=q->q<rs.length->vr (rAt rs q) k≠0->R (.fz (.int q)))/\((∀i,p<=i->i<rs.length->vr (rAt rs i) k=0)->R (.fz .non))
def JB(T:Tx D)(F:Fu qR rO f fd):FT 1 f fd jX yZ:=by
 refine F.okT JR λai A outer s H E hr nd=>?_;refine⟨_,(bC (eV (K4 T.fj (bw (qv 1) (bw (bL cH T.dg WP (bw (qv 0) bA)) bA))) (bW (n:=99) 3)
  (bG (cB (b_ (mj hr.units) (bI (bI (bI (qv 0) (qv 3)) bx) (qv 2)) bx)
  (bG (bM (qv 3)))
  bR)))
  (bG (bM iK))),?_⟩
 rintro _ R ⟨rs,wd,p,k,rfl,h,hp,hk,q,q0⟩;have at_:∀i,i<rs.length->k<(rAt rs i).1.length:=λi hi=>by rw[h.wds _ (eY hi)];exact hk
 have few:=h.few;have lm:(rs.map rwT).length=rs.length:=ak _;refine⟨⟨by lia,by lia,by lia,by lia⟩,Bk (λi o=>∃x,o=[.fz (.lst (rs.map rwT)),.fz (.int p),.fz (.int k),x]/\∀j,p<=j->j<p+i->vr (rAt rs j) k=0) _ 0 ⟨_,rfl,λj _ _=>by lia⟩ (λi t o e z=>?_) λo z=>?_⟩
 .obtain⟨hi,rfl⟩:=aaI e;rw[lm]at hi;have fb:p+i<rs.length:=by omega
  obtain⟨x,rfl,hz⟩:=z;have v0:=abK (h.big _ (eY fb)).pos (at_ _ fb);refine⟨_,sH fb,_,eE (aj (at_ _ fb)),?_⟩;by_cases c:(rAt rs (p+i)).1[k]'(at_ _ fb)=0
  .refine swF (by show xr true (decide (_=_))=false;rw[Zs c];rfl) ⟨_,rfl,λj hj hl=>?_⟩;by_cases ej:j=p+i
   .rw[ej];exact v0.mpr c
   .exact hz j hj (by lia)
  .exact swT (by show xr true (decide (_=_))=true;rw[Zp c];rfl) (q _ (X1 _ _) fb λz=>c (v0.mp z))
 .obtain⟨x,rfl,hz⟩:=z;refine q0 λj hj hl=>hz j hj ?_;unfold rng;rw[ak,WJ,lm];lia
def Hz:SO:=λtss ts R=>∃(rs:List Row)(ss:List T)(st:Stp)(wd:Nat),tss=[rs.map rwT,ss]/\ts=[stT st]/\Rws rs wd/\aiG rs.length st/\ss.length<sizeLine/\R [(uI rs st).map rwT,ss++[stT st]]
def YX(vh:OkF P w K mg base 4 sJ lH (spO K zW))(F:Fu zZ M6 f fd):dI P w K mg base CX0 5 f fd rM (spO K Hz):=by
 refine F.okO abX (λtss ts R ⟨rs,ss,st,wd,e1,e2,_⟩=>by rw[e1,e2];rfl) (by decide) λai A outer s H E hr nd=>?_;refine⟨_,(bC (agK 0 vh (bw (qv 2) bA))
  (bG (tY 1 (qv 2)))),?_⟩
 rintro as tss ts R tl ⟨rs,ss,st,wd,rfl,rfl,h,hs,hl,q⟩;obtain⟨a,b,rfl⟩ : ∃a b,as=[a,b]:=by
  match as,tl with
  |[a,b],_=>exact⟨a,b,rfl⟩
 refine⟨rs,st,wd,rfl,rfl,h,hs,hl,[(uI rs st).map rwT,ss++[stT st]],λj=>?_,rfl,q⟩
 match j with
 |0=>exact .inl rfl
 |1=>exact .inl rfl
 |j+2=>exact .inr (by simp)
open Rw (vr jy iT m6 gcL h_ gY qe lV Big pK jP mU j6 mK gw)
def Gk{rs:List Row}{i:Nat}{r:Row}(h:i<rs.length)(j:Nat):rAt (rs.set i r) j=if j=i then r else rAt rs j:=by
 unfold rAt;rw[au,au,List.getElem?_set];by_cases e:i=j
 .subst e;rw[ZY rfl,ZY rfl,ZY h];rfl
 .rw[ZZ e,ZZ (Ne.symm e)]
def Fn.of{a b:Int}(hb:b≠0)(h1:a.natAbs<=NN)(h2:b.natAbs<=NN):Fn (Rat.divInt a b):=by
 have hg:=Zyr a hb;have low:∃x y,Low a b x y:=by
  rcases Int.lt_or_lt_of_ne hb with z|z
  .exact⟨_,_,wV (c:=-((Int.gcd a b:Nat):Int)) hb (by lia) (by lia) (Zwv (by lia) z)⟩
  .exact⟨_,_,wV (c:=((Int.gcd a b:Nat):Int)) hb (by lia) (by lia) (XZ (by lia) z)⟩
 obtain⟨x,y,l⟩:=low;have e:=j4 l hb;injection e with e;injection e with e1 e;injection e with e2 e;injection e1 with e1;injection e2 with e2;exact⟨by rw[<- e1];exact aL l.lx h1,by have:=l.ly;lia⟩
def aa1{r:Row}{k:Nat}(hk:k<r.1.length):vr r k=Rat.divInt r.1[k] r.2:=by
 unfold vr;rw[au,aj hk,TW];rfl
def Fn.vr{r:Row}{k:Nat}(h:Big NN r)(hk:k<r.1.length):Fn (vr r k):=by
 have:=h.pos;rw[aa1 hk];exact Fn.of (WU this) (h.top _ (aU _)) h.bot
def Fn.inv{c:Rat}(h:Fn c)(h0:c≠0):Fn (1/c):=by
 have nb:c.num≠0:=λz=>h0 (by rw[<- rd c,z];exact Zzv _);rw[Rat.div_def,Rat.one_mul,Rat.inv_def];exact Fn.of nb h.d h.n
def Fn.neg{c:Rat}(h:Fn c):Fn (0-c):=by
 rw[Rat.sub_eq_add_neg,Zzy];exact⟨by show(-c.num).natAbs<=NN;rw[Int.natAbs_neg];exact h.n,h.d⟩
def Fn.bq{c:Rat}(h:Fn c):Bq c:=⟨bdN h.n,bdN h.d⟩
def Rws.fn{rs:List Row}{wd i k:Nat}(h:Rws rs wd)(hi:i<rs.length)(hk:k<wd):Fn (Rw.vr (rAt rs i) k):=Fn.vr (h.big _ (eY hi)) (by rw[h.wds _ (eY hi)];exact hk)
def Rws.of{rs eQ:List Row}{wd:Nat}(h:Rws rs wd)(hl:eQ.length=rs.length)(hr:∀i,i<rs.length->Big NN (rAt eQ i)/\(rAt eQ i).1.length=wd):Rws eQ wd:=by
 have:∀r∈eQ,Big NN r/\r.1.length=wd:=λr hm=>by
  obtain⟨i,hi,e0⟩:=Zxv hm;have e:=yd hi;rw[aj hi,e0]at e;injection e with e;rw[e];exact hr i (hl ▸ hi)
 exact⟨λr hm=>(this r hm).1,λr hm=>(this r hm).2,hl ▸ h.few,h.wde⟩
def Hv(rs:List Row)(st:Stp):(uI rs st).length=rs.length:=by cases st<;>simp[uI]
def bgP(r:Row)(k:Nat):Row:=if vr r k=1 then r else jy (iT r (pr (1/vr r k)))
def bgA(rs:List Row)(p q k i:Nat):Row:=if i=p then bgP (rAt rs q) k else rAt rs (Rw.sw p q i)
def swR(rs:List Row)(p q:Nat):List Row:=if q=p then rs else uI rs (.swap p q)
def acv(rs:List Row)(p q:Nat):(swR rs p q).length=rs.length:=by
 unfold swR;split
 .rfl
 .exact Hv _ _
def af7{rs:List Row}{p q:Nat}(hp:p<rs.length)(hq:q<rs.length)(i:Nat):rAt (swR rs p q) i=rAt rs (Rw.sw p q i):=by
 unfold swR Rw.sw;by_cases e:q=p
 .subst e;rw[ZY rfl];by_cases c:i=q
  .rw[ZY c,c]
  .rw[ZZ c,ZZ c]
 .rw[ZZ e];show rAt ((rs.set p (rAt rs q)).set q (rAt rs p)) i=_;rw[Gk (by rw[WH];exact hq),Gk hp];by_cases c:i=q
  .subst c;rw[ZY rfl,ZZ e,ZY rfl]
  .rw[ZZ c];by_cases d:i=p
   .rw[ZY d,ZY d]
   .rw[ZZ d,ZZ d,ZZ c]
def Bw:SO:=λtss ts R=>∃(rs:List Row)(ss:List T)(wd p q k:Nat),tss=[rs.map rwT,ss]/\ts=[.int p,.int q,.int k]/\Rws rs wd/\p<rs.length/\q<rs.length/\k<wd/\vr (rAt rs q) k≠0/\ss.length+2<sizeLine /\
 ∀eQ jv,eQ.length=rs.length->(∀i,i<rs.length->rAt eQ i=bgA rs p q k i)->jv.length<=ss.length+2->R [eQ.map rwT,jv]
def agu{x y:RS}{E:DT}{o:List OT}(J:List OT->Prop)(k:∀o',J o'->y E o')(h:(∀o',J o'->y E o')->d9 x y E o):d9 x y E o:=h k
def eqR(v u:Rat):(decide (v.num=u.num)&&decide (((v.den:Nat):Int)=u.den))=decide (v=u):=by
 rw[<- Bool.decide_and];refine decide_eq_decide.mpr ⟨λ⟨a,b⟩=>Rat.ext a (by lia),λz=>by rw[z];exact⟨rfl,rfl⟩⟩
def fin2{R:List (List T)->Prop}{a b:Addr}(L M:List T){o:List OT}(q:R [L,M]):∃bi,(∀j,slot (.la a L::.la b M::o) j=slot (List.zipWith OT.la [a,b] bi) j\/[a,b].length<=j)/\bi.length=[a,b].length/\R bi:=⟨[L,M],λj=>by
 match j with
 |0=>exact .inl rfl
 |1=>exact .inl rfl
 |j+2=>exact .inr (by simp),rfl,q⟩
def abP{α β:Type}{as:List α}{x y:β}(tl : [x,y].length=as.length):∃a b,as=[a,b]:=by
 match as,tl with
 |[a,b],_=>exact⟨a,b,rfl⟩
def M9(T:Tx D)(rQ:OkF P w K mg base 5 zZ rM (spO K Hz))(lg:gT 3 oE jF tD)(T6:gT 3 Pr Av WX)(F:Fu sX xM f fd):dI P w K mg base CX0 6 f fd lG (spO K Bw):=by
 refine F.okO Ot (λtss ts R ⟨rs,ss,wd,p,q,k,e1,e2,_⟩=>by rw[e1,e2];rfl) (by decide) λai A outer s H E hr nd=>?_;refine⟨_,(bC (cB (b_ (mj hr.units) (qv 3) (qv 2))
  (bG (Ii 0 1 rQ hr.md (by rfl) (bw (cX (bw j7 (bw (qv 2) (bw (qv 3) bA)))) bA)))
  bR)
  (bC (bQ 5 (bH lg (bw (nG 0 (qv 2)) (bw (qv 4) bA))))
  (bG (cB (b_ (mj hr.units) (qv 5) (jY T.yP T.qM))
  (bG (Ii 0 1 rQ hr.md (by rfl) (bw (cX (bw j7 (bw (qv 2) (bw (bH T6 (bw (jY T.yP T.qM) (bw (qv 5) bA))) bA)))) bA)))
  bR)))),?_⟩
 rintro as tss ts R tl ⟨rs,ss,wd,p,q,k,rfl,rfl,h,hp,hq,hk,h0,hl,ok⟩;obtain⟨a,b,rfl⟩:=abP tl;have sl:=acv rs p q;have sa:=af7 hp hq;have h8:Rw.sw p q p=q:=ZY rfl;have swl:∀i,i<rs.length->Rw.sw p q i<rs.length:=λi hi=>by
  unfold Rw.sw;split
  .exact hq
  .split<;>omega
 have hS:Rws (swR rs p q) wd:=h.of sl λi hi=>by rw[sa];exact⟨h.big _ (eY (swl i hi)),h.wds _ (eY (swl i hi))⟩
 refine agu (λo=>∃dQ,o=[.la a ((swR rs p q).map rwT),.la b dQ,.fz (.int p),.fz (.int q),.fz (.int k),.und]/\dQ.length<=ss.length+1) ?_ λgo=>?_
 .rintro _ ⟨dQ,rfl,l1⟩;have eJ:p<(swR rs p q).length:=by lia
  have hk':k<(rAt (swR rs p q) p).1.length:=by rw[hS.wds _ (eY eJ)];exact hk
  have fn:=hS.fn eJ hk;refine⟨_,sH eJ,_,k,rfl,hk',hS.big _ (eY eJ),?_⟩;have v:vr (rAt (swR rs p q) p) k=vr (rAt rs q) k:=by rw[sa,h8]
  rw[v];rw[v]at fn;by_cases e:vr (rAt rs q) k=1
  .refine swF (by show xr true (_&&_)=false;rw[show(decide ((vr (rAt rs q) k).num=1)&&decide (((vr (rAt rs q) k).den:Int)=1))=_ from eqR _ 1,Zs e];rfl) (fin2 _ _ (ok _ _ sl (λi hi=>?_) (aL l1 (Xs _))));rw[sa];unfold bgA bgP;split
   .rename_i c;rw[c,h8]
   .rfl
  .refine swT (by show xr true (_&&_)=true;rw[show(decide ((vr (rAt rs q) k).num=1)&&decide (((vr (rAt rs q) k).den:Int)=1))=_ from eqR _ 1,Zp e];rfl) ⟨1,_,rfl,h0,bq1,fn.bq,by show Bd (1*_);rw[UH];exact bdN fn.n,swR rs p q,dQ,.times p (1/vr (rAt rs q) k),wd,rfl,rfl,hS,⟨eJ,fn.inv h0⟩,by lia,fin2 _ _ (ok _ _ (by rw[Hv];exact sl) (λi hi=>?_) (by rw[aA];show _+1<=_;exact Nat.succ_le_succ l1))⟩;show rAt ((swR rs p q).set p _) i=_;rw[Gk eJ,sa,sa,h8];unfold bgA bgP;split
   .rfl
   .rfl
 .by_cases e:q=p
  .refine swF (by show xr true (decide (_=_))=false;rw[Zs (by lia)];rfl) (go [.la a (rs.map rwT),.la b ss,.fz (.int p),.fz (.int q),.fz (.int k),.und] ⟨ss,?_,by exact Xs _⟩);unfold swR;rw[ZY e]
  .refine swT (by show xr true (decide (_=_))=true;rw[Zp (by lia)];rfl) ⟨rs,ss,.swap p q,wd,rfl,rfl,h,⟨hp,hq⟩,by lia,go [.la a ((uI rs (.swap p q)).map rwT),.la b (ss++[stT (.swap p q)]),.fz (.int p),.fz (.int q),.fz (.int k),.und] ⟨ss++[stT (.swap p q)],?_,by simp⟩⟩;unfold swR;rw[ZZ e]
open Rw (vr jy iT m6 gcL h_ gY qe lV Big pK jP mU j6 mK gw)
def clA(rs:List Row)(p k i:Nat):Row:=if i=p\/vr (rAt rs i) k=0 then rAt rs i else jy (m6 (rAt rs i) (rAt rs p) (pr (0-vr (rAt rs i) k)))
def uy:SO:=λtss ts R=>∃(rs:List Row)(ss:List T)(wd p k:Nat),tss=[rs.map rwT,ss]/\ts=[.int p,.int k]/\Rws rs wd/\p<rs.length/\k<wd/\ss.length+rs.length<sizeLine/\(∀i,i<rs.length->Big NN (clA rs p k i)) /\
 ∀eQ jv,eQ.length=rs.length->(∀i,i<rs.length->rAt eQ i=clA rs p k i)->jv.length<=ss.length+rs.length->R [eQ.map rwT,jv]
def adi{rs:List Row}{p k i wd:Nat}(h:Rws rs wd)(hp:p<rs.length)(hi:i<rs.length):(clA rs p k i).1.length=wd:=by
 unfold clA;split
 .exact h.wds _ (eY hi)
 .rw[j6];show(List.zipWith _ (rAt rs i).1 (rAt rs p).1).length=wd;rw[TZ,h.wds _ (eY hi),h.wds _ (eY hp),Up]
def Fd(T:Tx D)(rQ:OkF P w K mg base 5 zZ rM (spO K Hz))(lg:gT 3 oE jF tD)(n_:gT 3 wY pq Bb)(F:Fu nY pB f fd):dI P w K mg base CX0 6 f fd iy (spO K uy):=by
 refine F.okO Fo (λtss ts R ⟨rs,ss,wd,p,k,e1,e2,_⟩=>by rw[e1,e2];rfl) (by decide) λai A outer s H E hr nd=>?_;refine⟨_,(bG (eV (dG T.fj (bw (Tn 0 (bL cH T.dg WP (bw (qv 0) bA))) bA)) (bW (n:=99) 4)
  (bG (cB (QW.qt (ZP (b_ (mj hr.units) (qv 4) (qv 2)) (WT (b_ (mj hr.units) (bI (bI (nG 0 (qv 4)) bx) (qv 3)) bx))))
  (bC (bQ 5 (bH n_ (bw (jY T.i_ T.gQ) (bw (bH lg (bw (nG 0 (qv 4)) (bw (qv 3) bA))) bA))))
  (bG (Ii 0 1 rQ hr.md (by rfl) (bw (cX (bw j7 (bw (qv 4) (bw (qv 2) (bw (qv 5) bA))))) bA))))
  bR)))),?_⟩
 rintro as tss ts R tl ⟨rs,ss,wd,p,k,rfl,rfl,h,hp,hk,hl,hb,ok⟩;obtain⟨a,b,rfl⟩:=abP tl;have lm:(rs.map rwT).length=rs.length:=ak _;have few:=h.few;refine⟨trivial,⟨by lia,by lia⟩,oR (λn o=>∃c9 dQ x y,o=[.la a (c9.map rwT),.la b dQ,.fz (.int p),.fz (.int k),x,y]/\c9.length=rs.length/\(∀i,i<rs.length->rAt c9 i=if i<n then clA rs p k i else rAt rs i)/\dQ.length<=ss.length+n) ⟨rs,ss,_,_,rfl,rfl,λi _=>by rw[ZZ (WZ _)],aG _⟩ ?_ ?_⟩
 .rintro n _ hn ⟨c9,dQ,x,y,rfl,l1,hJ,s1⟩;have hn:n<rs.length:=by rw[lm]at hn;lia
  have rn:rAt c9 n=rAt rs n:=by rw[hJ n hn,ZZ (X2 _)]
  have rp:rAt c9 p=rAt rs p:=by
   rw[hJ p hp];split
   .unfold clA;rw[ZY (.inl rfl)]
   .rfl
  have h1:Rws c9 wd:=h.of l1 λi hi=>by
   rw[hJ i hi];split
   .exact⟨hb i hi,adi h hp hi⟩
   .exact⟨h.big _ (eY hi),h.wds _ (eY hi)⟩
  have stay:clA rs p k n=rAt rs n->∀i,i<rs.length->rAt c9 i=if i<n+1 then clA rs p k i else rAt rs i:=λe i hi=>by
   rw[hJ i hi];by_cases c:i=n
   .subst c;rw[ZZ (X2 _),ZY (X0 _),e]
   .by_cases d:i<n
    .rw[ZY d,ZY (WV _ d)]
    .rw[ZZ d,ZZ (by lia)]
  by_cases e:n=p
  .exact swF (by show xr true (decide (_=_))=false;rw[Zs (by lia)];rfl) ⟨c9,dQ,_,_,rfl,l1,stay (ZY (.inl e)),by lia⟩
  .have gE:n<c9.length:=by lia
   have hk1:k<(rAt c9 n).1.length:=by rw[h1.wds _ (eY gE)];exact hk
   have v0:=abK (h1.big _ (eY gE)).pos hk1;refine swT (by show xr true (decide (_=_))=true;rw[Zp (by lia)];rfl) ⟨_,sH gE,_,eE (aj hk1),?_⟩;by_cases c:(rAt c9 n).1[k]'hk1=0
   .exact swF (by show xr true (decide (_=_))=false;rw[Zs c];rfl) ⟨c9,dQ,_,_,rfl,l1,stay (ZY (.inr (by rw[<- rn];exact v0.mpr c))),by lia⟩
   .have fn:=h1.fn gE hk;refine swT (by show xr true (decide (_=_))=true;rw[Zp c];rfl) ⟨_,sH gE,_,k,rfl,hk1,h1.big _ (eY gE),0,_,rfl,bq0,fn.bq,by show Bd (1*_);rw[UH];exact bdN fn.d,c9,dQ,.add n p (0-vr (rAt c9 n) k),wd,rfl,rfl,h1,⟨gE,by lia,fn.neg⟩,by lia,uI c9 (.add n p (0-vr (rAt c9 n) k)),dQ++[stT (.add n p (0-vr (rAt c9 n) k))],_,_,rfl,by rw[Hv];exact l1,λi hi=>?_,by rw[aA];show _+1<=_;lia⟩;show rAt (c9.set n _) i=_;rw[Gk gE,rn,rp];by_cases d:i=n
    .rw[ZY d,d,ZY (X0 _)];unfold clA;rw[ZZ λz=>z.elim e λz=>c (v0.mp (by rw[rn];exact z))]
    .rw[ZZ d,hJ i hi];by_cases d':i<n
     .rw[ZY d',ZY (WV _ d')]
     .rw[ZZ d',ZZ (by lia)]
 .rintro _ ⟨c9,dQ,x,y,rfl,l1,hJ,s1⟩;rw[lm]at hJ s1;exact fin2 _ _ (ok c9 dQ l1 (λi hi=>by rw[hJ i hi,ZY (by lia)]) (by lia))
open Rw (vr jy iT m6 gcL h_ gY qe lV Big pK jP mU j6 mK gw sg fJ eF bU fu fQ)
def Y8(c:Rat):(((pr c).1:Int):Rat)/(((pr c).2:Int):Rat)=c:=by rw[<- TW];exact rd c
def NZ(c:Rat):0<(pr c).2:=by have:=c.den_pos;show(0:Int)<(c.den:Nat);lia
def V8{r:Row}(h:0<r.2):0<(jy r).2:=Zyq h (XY (h_ h)) gY.1
def agH{r:Row}{k:Nat}(h:0<r.2)(h0:vr r k≠0):0<(bgP r k).2/\(bgP r k).1.length=r.1.length/\(gcL (bgP r k).1 (bgP r k).2=1\/bgP r k=r)/\∀j,vr (bgP r k) j*vr r k=vr r j:=by
 unfold bgP;by_cases e:vr r k=1
 .rw[ZY e];exact⟨h,rfl,.inr rfl,λj=>by rw[e,Rat.mul_one]⟩
 .rw[ZZ e];have tp:0<(iT r (pr (1/vr r k))).2:=XZ h (NZ _);refine⟨V8 tp,by rw[j6];unfold iT;rw[ak],.inl (lV tp),λj=>?_⟩;rw[pK tp,jP h (NZ _),Y8]
  grind
def ae5{rs:List Row}{p k i:Nat}(hi:0<(rAt rs i).2)(hp:0<(rAt rs p).2)(hl:(rAt rs i).1.length=(rAt rs p).1.length):0<(clA rs p k i).2/\(gcL (clA rs p k i).1 (clA rs p k i).2=1\/clA rs p k i=rAt rs i)/\∀j,vr (clA rs p k i) j=if i=p then vr (rAt rs p) j else vr (rAt rs i) j-vr (rAt rs i) k*vr (rAt rs p) j:=by
 unfold clA;by_cases e:i=p
 .rw[ZY (.inl e)];exact⟨hi,.inr rfl,λj=>by rw[ZY e,e]⟩
 .by_cases z:vr (rAt rs i) k=0
  .rw[ZY (.inr z)];exact⟨hi,.inr rfl,λj=>by rw[ZZ e,z];grind⟩
  .rw[ZZ λy=>y.elim e z];have tp:0<(m6 (rAt rs i) (rAt rs p) (pr (0-vr (rAt rs i) k))).2:=by
    have hB:=XZ hp (NZ (0-vr (rAt rs i) k));exact XZ hi (Zyq hB (XY (mL (WU hB))) (JS _ _))
   refine⟨V8 tp,.inl (lV tp),λj=>?_⟩;rw[pK tp,mU hi hp (NZ _) hl,Y8,ZZ e]
   grind
structure FnB(M:Nat)(c:Rat):Prop where
 n:c.num.natAbs<=M
 d:c.den<=M
def FnB.vr{M:Nat}{r:Row}{k:Nat}(h:Big M r)(hk:k<r.1.length):FnB M (Rw.vr r k):=by
 have hb:=h.pos;have hg:=Zyr r.1[k] (WU hb);have l:=wV (t:=r.1[k]) (c:=((Int.gcd r.1[k] r.2:Nat):Int)) (WU hb) (by lia) (by lia) (XZ (by lia) hb);have e:=j4 l (WU hb);rw[aa1 hk];injection e with e;injection e with e1 e;injection e with e2 e;injection e1 with e1;injection e2 with e2;exact⟨by rw[<- e1];exact aL l.lx (h.top _ (aU _)),by have:=l.ly;have:=h.bot;omega⟩
structure B0(rs0:List Row)(wd N:Nat):Prop where
 big:∀i,i<rs0.length->Big N (rAt rs0 i)/\(rAt rs0 i).1.length=wd
 one:1<=N
 mb:(2*rs0.length*N)^rs0.length<=NN
 nn:N<=NN
abbrev aT(rs0:List Row)(i j:Nat):Int:=(rAt rs0 i).1.getD j 0
abbrev aB(rs0:List Row)(i:Nat):Int:=(rAt rs0 i).2
structure Gs(rs0:List Row)(wd N c:Nat)(rs:List Row):Prop where
 len:rs.length=rs0.length
 row:∀i,i<rs0.length->0<(rAt rs i).2/\(rAt rs i).1.length=wd/\(gcL (rAt rs i).1 (rAt rs i).2=1\/Big N (rAt rs i))
 st:∃pv s,gw (aT rs0) (aB rs0) rs0.length wd (λi j=>vr (rAt rs i) j) c pv s
 unit:∀i l,i<rs0.length->l<c->vr (rAt rs i) l=if i=l then 1 else 0
 ker:∀x:Nat->Rat,(∀i,i<rs0.length->sg (λj=>vr (rAt rs i) j*x j) wd=0)->∀i,i<rs0.length->sg (λj=>vr (rAt rs0 i) j*x j) wd=0
section
variable{rs0 rs:List Row}{wd N c q:Nat}
def B0.zero(h:B0 rs0 wd N):Gs rs0 wd N 0 rs0:=⟨rfl,λi hi=>⟨(h.big i hi).1.pos,(h.big i hi).2,.inr (h.big i hi).1⟩,⟨λ_=>0,id,gw.zero λi hi=>(h.big i hi).1.pos⟩,λ_ _ _ z=>absurd z (WZ _),λ_ z=>z⟩
def amx{m N:Nat}(hm:1<=m)(h1:1<=N):N<=(2*m*N)^m:=by
  have x:N<=2*m*N:=Zxy _ (by lia);have y:1<=2*m*N:=VX (show 1<=2*m by lia) h1
  calc N<=(2*m*N)^1:=by rw[Nat.pow_one];exact x
    _<=_:=XU y hm
def B0.sbigM(h:B0 rs0 wd N){R:Nat->Nat->Rat}{p:Nat}(st:∃pv s,gw (aT rs0) (aB rs0) rs0.length wd R p pv s){i:Nat}(hi:i<rs0.length){r:Row}(hr:0<r.2)(hw:r.1.length=wd)(g:gcL r.1 r.2=1\/Big N r)(e:∀j,j<wd->vr r j=R i j):Big ((2*rs0.length*N)^rs0.length) r:=by
 rcases g with g|g
 .obtain⟨pv,s,st⟩:=st;obtain⟨v,u,u0,ub,vb,ee⟩:=st.bound h.one (λi j hi hj=>by
   have b:=h.big i hi;show((rAt rs0 i).1.getD j 0).natAbs<=N;rw[au,aj (by rw[b.2];exact hj)];exact b.1.top _ (aU _)) (λi hi=>⟨(h.big i hi).1.pos,(h.big i hi).1.bot⟩) hi
  exact mK hr g hw u0 ub vb λj hj=>by rw[e j hj];exact ee j hj
 .exact g.le (amx (by lia) h.one)
def B0.sbig(h:B0 rs0 wd N){R:Nat->Nat->Rat}{p:Nat}(st:∃pv s,gw (aT rs0) (aB rs0) rs0.length wd R p pv s){i:Nat}(hi:i<rs0.length){r:Row}(hr:0<r.2)(hw:r.1.length=wd)(g:gcL r.1 r.2=1\/Big N r)(e:∀j,j<wd->vr r j=R i j):Big NN r:=(h.sbigM st hi hr hw g e).le h.mb
def Gs.bigM(g:Gs rs0 wd N c rs)(h:B0 rs0 wd N){i:Nat}(hi:i<rs0.length):Big ((2*rs0.length*N)^rs0.length) (rAt rs i):=h.sbigM g.st hi (g.row i hi).1 (g.row i hi).2.1 (g.row i hi).2.2 λ_ _=>rfl
def Gs.big(g:Gs rs0 wd N c rs)(h:B0 rs0 wd N){i:Nat}(hi:i<rs0.length):Big NN (rAt rs i):=h.sbig g.st hi (g.row i hi).1 (g.row i hi).2.1 (g.row i hi).2.2 λ_ _=>rfl
def VB{p q i m:Nat}(hp:p<m)(hq:q<m)(hi:i<m):Rw.sw p q i<m:=by
 unfold Rw.sw;split
 .exact hq
 .split<;>omega
def aeE(p q i:Nat):Rw.sw p q (Rw.sw p q i)=i:=by
 unfold Rw.sw;by_cases a:i=p
 .subst a;rw[ZY rfl];by_cases b:q=i
  .rw[ZY b,b]
  .rw[ZZ b,ZY rfl]
 .by_cases b:i=q
  .subst b;rw[ZZ a,ZY rfl,ZY rfl]
  .rw[ZZ a,ZZ b,ZZ a,ZZ b]
def Gs.next(g:Gs rs0 wd N c rs)(h:B0 rs0 wd N)(hc:c<rs0.length)(cw:c<wd)(hq:c<=q)(de:q<rs0.length)(h0:vr (rAt rs q) c≠0){rs2:List Row}(e2:∀i,i<rs0.length->rAt rs2 i=bgA rs c q c i) :
  (∀i,i<rs0.length->Big NN (rAt rs2 i)/\(rAt rs2 i).1.length=wd)/\(∀i,i<rs0.length->Big NN (clA rs2 c c i))/\∀h9:List Row,h9.length=rs0.length->(∀i,i<rs0.length->rAt h9 i=clA rs2 c c i)->Gs rs0 wd N (c+1) h9:=by
 have h8:Rw.sw c q c=q:=ZY rfl;obtain⟨b1,b2,b3,b4⟩:=agH (g.row q de).1 h0;have ec:rAt rs2 c=bgP (rAt rs q) c:=by rw[e2 c hc];exact ZY rfl
 have ei:∀i,i<rs0.length->i≠c->rAt rs2 i=rAt rs (Rw.sw c q i):=λi hi ne=>by rw[e2 i hi];exact ZZ ne
 have cr:∀i,i<rs0.length->0<(rAt rs2 i).2/\(rAt rs2 i).1.length=wd/\(gcL (rAt rs2 i).1 (rAt rs2 i).2=1\/Big N (rAt rs2 i)):=λi hi=>by
  by_cases e:i=c
  .rw[e,ec];refine⟨b1,by rw[b2];exact(g.row q de).2.1,b3.elim .inl λz=>?_⟩;rw[z];exact(g.row q de).2.2
  .rw[ei i hi e];exact g.row _ (VB hc de hi)
 have cl:=λi(hi:i<rs0.length)=>ae5 (rs:=rs2) (p:=c) (k:=c) (i:=i) (cr i hi).1 (cr c hc).1 (by rw[(cr i hi).2.1,(cr c hc).2.1]);have clw:∀i,i<rs0.length->(clA rs2 c c i).1.length=wd:=λi hi=>by
  unfold clA;split
  .exact(cr i hi).2.1
  .rw[j6];show(List.zipWith _ (rAt rs2 i).1 (rAt rs2 c).1).length=wd;rw[TZ,(cr i hi).2.1,(cr c hc).2.1,Up]
 have clg:∀i,i<rs0.length->gcL (clA rs2 c c i).1 (clA rs2 c c i).2=1\/Big N (clA rs2 c c i):=λi hi=>(cl i hi).2.1.elim .inl λz=>by rw[z];exact(cr i hi).2.2
 have Vc:∀j,vr (clA rs2 c c c) j*vr (rAt rs q) c=vr (rAt rs q) j:=λj=>by
  rw[(cl c hc).2.2 j,ZY rfl,ec];exact b4 j
 have Vi:∀i,i<rs0.length->i≠c->∀j,vr (clA rs2 c c i) j=vr (rAt rs (Rw.sw c q i)) j-vr (rAt rs (Rw.sw c q i)) c*vr (clA rs2 c c c) j:=λi hi ne j=>by
  rw[(cl i hi).2.2 j,(cl c hc).2.2 j,ZZ ne,ZY rfl,ei i hi ne]
 have dk:∃pv s,gw (aT rs0) (aB rs0) rs0.length wd (λi j=>vr (clA rs2 c c i) j) (c+1) pv s:=by
  obtain⟨pv,s,st⟩:=g.st;have s1:=st.swap hq de (R':=λi j=>vr (rAt rs (Rw.sw c q i)) j) λi j _ _=>rfl;exact⟨_,_,s1.pivot hc (λi hi=>(h.big i hi).1.pos) cw (by show vr (rAt rs (Rw.sw c q c)) c≠0;rw[h8];exact h0) (R':=λi j=>vr (clA rs2 c c i) j) (λj _=>by show vr (clA rs2 c c c) j*vr (rAt rs (Rw.sw c q c)) c=vr (rAt rs (Rw.sw c q c)) j;rw[h8];exact Vc j) λi j hi ne _=>Vi i hi ne j⟩
 have rS:∀i,i<rs0.length->Big NN (clA rs2 c c i):=λi hi=>h.sbig dk hi (cl i hi).1 (clw i hi) (clg i hi) λ_ _=>rfl;refine⟨λi hi=>⟨?_,(cr i hi).2.1⟩,rS,λh9 l3 e3=>⟨l3,λi hi=>by rw[e3 i hi];exact⟨(cl i hi).1,clw i hi,clg i hi⟩,?_,λi l hi hl=>?_,λx hx=>g.ker x λi hi=>?_⟩⟩
 .by_cases e:i=c
  .rw[e];refine h.sbig dk hc (cr c hc).1 (cr c hc).2.1 (cr c hc).2.2 λj _=>?_;show _=vr (clA rs2 c c c) j;rw[(cl c hc).2.2 j,ZY rfl]
  .rw[ei i hi e];exact g.big h (VB hc de hi)
 .obtain⟨pv,s,st⟩:=dk;exact⟨pv,s,st.congr λi j hi=>by rw[e3 i hi]⟩
 .rw[e3 i hi];have v0:l<c->vr (clA rs2 c c c) l=0:=λhl=>by
   have:=Vc l;rw[g.unit q l de hl,ZZ (by lia)]at this
   grind
  have v1:vr (clA rs2 c c c) c=1:=by
   have:=Vc c
   grind
  by_cases e:i=c
  .subst e;by_cases z:l<i
   .rw[v0 z,ZZ (VW z)]
   .rw[show l=i by lia,v1,ZY rfl]
  .rw[Vi i hi e l];by_cases z:l<c
   .rw[v0 z,g.unit _ l (VB hc de hi) z];have:(Rw.sw c q i=l)=(i=l):=by
     unfold Rw.sw;rw[ZZ e];split
     .exact propext ⟨λ_=>by lia,λ_=>by lia⟩
     .rfl
    simp only[this]
    grind
   .rw[show l=c by lia,v1,ZZ e]
    grind
 .have p5:=hx c hc;rw[e3 c hc]at p5;by_cases e:i=q
  .rw[e,bU (g:=λj=>vr (rAt rs q) c*(vr (clA rs2 c c c) j*x j)) λj _=>by rw[<- Vc j];grind,eF,p5]
   grind
  .have hs:=VB hc de hi;have ne:Rw.sw c q i≠c:=λz=>by
    have:=aeE c q i;rw[z,h8]at this;exact e this.symm
   have hi0:=hx _ hs;rw[e3 _ hs]at hi0;rw[bU (g:=λj=>vr (clA rs2 c c (Rw.sw c q i)) j*x j+vr (rAt rs i) c*(vr (clA rs2 c c c) j*x j)) λj _=>by rw[Vi _ hs ne,aeE];grind,fJ,eF,p5,hi0]
   grind
def Gs.found(g:Gs rs0 wd N c rs)(hc:c<rs0.length)(cw:c<wd)(inj:∀x:Nat->Rat,(∀j,rs0.length<=j->x j=0)->(∀i,i<rs0.length->sg (λj=>vr (rAt rs0 i) j*x j) wd=0)->∀j,j<rs0.length->x j=0):¬∀i,c<=i->i<rs0.length->vr (rAt rs i) c=0:=λhz=>by
 have:=inj (λj=>if j<c then -(vr (rAt rs j) c)else if j=c then 1 else 0) (λj hj=>by rw[ZZ (by lia),ZZ (by lia)]) (g.ker _ λi hi=>?_) c hc
 .rw[ZZ (X2 _),ZY rfl]at this;exact absurd this (by decide)
 .rw[bU (g:=λj=>(if j=i then 1 else 0)*(if j<c then -(vr (rAt rs j) c)else 0)+(if j=c then 1 else 0)*vr (rAt rs i) c) λj hj=>?_,fJ,fQ (v:=λj=>if j<c then -(vr (rAt rs j) c)else 0),fQ (v:=λ_=>vr (rAt rs i) c),ZY cw]
  .by_cases e:i<c
   .rw[ZY (Ts e cw),ZY e]
    grind
   .rw[hz i (VS e) hi];rw[ZZ e]
    grind
  .by_cases a:j<c
   .rw[ZY a,ZY a,g.unit i j hi a,ZZ (show j≠c by exact aQ a)];by_cases b:i=j
    .rw[ZY b,ZY b.symm];grind
    .rw[ZZ b,ZZ (Ne.symm b)];grind
   .rw[ZZ a,ZZ a];by_cases b:j=c
    .rw[ZY b,b];grind
    .rw[ZZ b];grind
def Gs.answer(g:Gs rs0 (rs0.length+1) N rs0.length rs){i:Nat}(hi:i<rs0.length):sg (λj=>vr (rAt rs0 i) j*vr (rAt rs j) rs0.length) rs0.length=vr (rAt rs0 i) rs0.length:=by
 have:=g.ker (λj=>if j<rs0.length then vr (rAt rs j) rs0.length else -1) (λi hi=>?_) i hi
 .show _=_;rw[show sg (λj=>vr (rAt rs0 i) j*(if j<rs0.length then vr (rAt rs j) rs0.length else -1)) (rs0.length+1)=sg (λj=>vr (rAt rs0 i) j*(if j<rs0.length then vr (rAt rs j) rs0.length else -1)) rs0.length+vr (rAt rs0 i) rs0.length*(if rs0.length<rs0.length then vr (rAt rs rs0.length) rs0.length else -1)from rfl,ZZ (X2 _),bU (g:=λj=>vr (rAt rs0 i) j*vr (rAt rs j) rs0.length) λj hj=>by rw[ZY hj]]at this
  grind
 .rw[show sg (λj=>vr (rAt rs i) j*(if j<rs0.length then vr (rAt rs j) rs0.length else -1)) (rs0.length+1)=sg (λj=>vr (rAt rs i) j*(if j<rs0.length then vr (rAt rs j) rs0.length else -1)) rs0.length+vr (rAt rs i) rs0.length*(if rs0.length<rs0.length then vr (rAt rs rs0.length) rs0.length else -1)from rfl,ZZ (X2 _),bU (g:=λj=>(if j=i then 1 else 0)*vr (rAt rs j) rs0.length) λj hj=>by rw[ZY hj,g.unit i j hi hj];simp only[eq_comm],fQ (v:=λj=>vr (rAt rs j) rs0.length),ZY hi]
  grind
end
open Rw (vr jy iT m6 gcL h_ gY qe lV Big pK jP mU j6 mK gw sg fJ eF bU fu fQ)
abbrev mD(r:List Rat):Row:=(tops (iQ 1 r) r,((iQ 1 r:Nat):Int))
abbrev yG(r:List Rat):T:=.lst (r.map frR)
def adK(r:List Rat):(mD r).1.length=r.length:=ak _
def Vm(r:List Rat)(j:Nat):vr (mD r) j=r.getD j 0:=by
 unfold vr;have hB:=m9 r UP;show(((tops (iQ 1 r) r).getD j 0:Int):Rat)/(((iQ 1 r:Nat):Int):Rat)=_;unfold tops;rw[au,au,aq];by_cases h:j<r.length
 .rw[aj h];show((r[j].num*((iQ 1 r/r[j].den:Nat):Int):Int):Rat)/_=r[j];obtain⟨k,hk⟩:=(m7 r (n:=1)).2 r[j] (aU h);have hd:=r[j].den_pos;rw[show iQ 1 r/r[j].den=k by rw[hk];exact Nat.mul_div_cancel_left _ hd];have k9:k≠0:=λz=>by rw[z]at hk;lia
  rw[<- TW,hk,JP,Rat.divInt_mul_right (by lia)];exact rd _
 .rw[aM (Nat.not_lt.mp h)];show((0:Int):Rat)/_=0
  grind
structure Sys(ac:List (List Rat))(N:Nat):Prop where
 wid:∀r∈ac,r.length=ac.length+1
 few:ac.length<=100
 lev:∀r∈ac,Big N (mD r)
 num:∀r∈ac,∀c∈r,Bd c.num
 one:1<=N
 mb:(2*ac.length*N)^ac.length<=NN
 nn:N<=NN
 inj:∀x:Nat->Rat,(∀j,ac.length<=j->x j=0)->(∀r∈ac,sg (λj=>r.getD j 0*x j) (ac.length+1)=0)->∀j,j<ac.length->x j=0
def Nj{ac:List (List Rat)}{i:Nat}(h:i<ac.length):rAt (ac.map mD) i=mD ac[i]:=by
 have:=yd (rs:=ac.map mD) (i:=i) (by rw[ak];exact h);rw[aq,aj h]at this;injection this with this;exact this.symm
def Sys.b0{ac:List (List Rat)}{N:Nat}(h:Sys ac N):B0 (ac.map mD) (ac.length+1) N:=⟨λi hi=>by
 rw[ak]at hi;rw[Nj hi];exact⟨h.lev _ (aU hi),by rw[adK];exact h.wid _ (aU hi)⟩,h.one,by rw[ak];exact h.mb,h.nn⟩
def Rws.mk'{rs:List Row}{wd:Nat}(hr:∀i,i<rs.length->Big NN (rAt rs i)/\(rAt rs i).1.length=wd)(h1:rs.length<=100)(h2:wd<=1000):Rws rs wd:=by
 have:∀r∈rs,Big NN r/\r.1.length=wd:=λr hm=>by
  obtain⟨i,hi,e0⟩:=Zxv hm;have e:=yd hi;rw[aj hi,e0]at e;injection e with e;rw[e];exact hr i hi
 exact⟨λr hm=>(this r hm).1,λr hm=>(this r hm).2,h1,h2⟩
def Sys.rws{ac:List (List Rat)}{N c:Nat}{rs:List Row}(h:Sys ac N)(g:Gs (ac.map mD) (ac.length+1) N c rs):Rws rs (ac.length+1):=by
 have l:=g.len;have few:=h.few;rw[ak]at l;refine Rws.mk' (λi hi=>?_) (aL (WG l) few) (by lia);have fb:i<(ac.map mD).length:=by rw[g.len]at hi;exact hi
 exact⟨g.big h.b0 fb,(g.row i fb).2.1⟩
def agL{ac:List (List Rat)}{i n:Nat}(hi:i<ac.length)(x:Nat->Rat):sg (λj=>vr (rAt (ac.map mD) i) j*x j) n=sg (λj=>ac[i].getD j 0*x j) n:=bU λj _=>by rw[Nj hi,Vm]
def Sys.inj'{ac:List (List Rat)}{N:Nat}(h:Sys ac N):∀x:Nat->Rat,(∀j,(ac.map mD).length<=j->x j=0)->(∀i,i<(ac.map mD).length->sg (λj=>vr (rAt (ac.map mD) i) j*x j) (ac.length+1)=0)->∀j,j<(ac.map mD).length->x j=0:=by
 rw[ak];intro x h1 h2;refine h.inj x h1 λr hr=>?_;obtain⟨i,hi,rfl⟩:=Zxv hr;rw[<- agL hi];exact h2 i hi
def Kf(m:Nat)(y:Nat->Rat):List T:=(List.range m).map λi=>.lst ((List.range (m+1)).map λj=>frR (if j<m then if i=j then 1 else 0 else y i))
def afB{ac:List (List Rat)}{N:Nat}{rs:List Row}(h:Sys ac N)(g:Gs (ac.map mD) (ac.length+1) N ac.length rs):(rs.map λr=>T.lst ((List.range (ac.length+1)).map λk=>frR (vr r k)))=Kf ac.length λi=>vr (rAt rs i) ac.length:=by
 have l:=g.len;rw[ak]at l;unfold Kf;refine TU (by rw[ak,ak,WJ,l]) λi h1 h2=>?_;rw[ak]at h1;rw[UZ,UZ,QU];have e:=yd h1;rw[aj h1]at e;injection e with e;rw[e]
 congr 1
 refine UU λj hj=>?_;have hj:=List.mem_range.mp hj;by_cases c:j<ac.length
 .rw[ZY c,g.unit i j (by rw[ak];exact aR h1 (WG l)) c]
 .rw[ZZ c,show j=ac.length by lia]
def agp{ac:List (List Rat)}{N:Nat}{rs:List Row}(g:Gs (ac.map mD) (ac.length+1) N ac.length rs):∀r∈ac,sg (λj=>r.getD j 0*vr (rAt rs j) ac.length) ac.length=r.getD ac.length 0:=λr hr=>by
 obtain⟨i,hi,rfl⟩:=Zxv hr;have l:(ac.map mD).length=ac.length:=ak _;have:=Gs.answer (rs0:=ac.map mD) (N:=N) (rs:=rs) (by rw[l];exact g) (i:=i) (by rw[l];exact hi);rw[l,Nj hi,Vm]at this;rw[<- this];exact bU λj _=>by rw[Vm]
def Ie:ST:=λts R=>∃(ac:List (List Rat))(N:Nat),ts=[.lst (ac.map yG),.int ac.length]/\Sys ac N/\∀(ss:List T)(y:Nat->Rat),(∀r∈ac,sg (λj=>r.getD j 0*y j) ac.length=r.getD ac.length 0)->(∀i,i<ac.length->FnB ((2*ac.length*N)^ac.length) (y i))->R (.fz (.tup [.lst ss,.lst (Kf ac.length y)]))
def U4(T:Tx D)(yE:gT 2 Bf qY Ja)(tV:gT 1 qR jX yZ)(v7:OkF P w K mg base 6 sX lG (spO K Bw))(pI:OkF P w K mg base 6 nY iy (spO K uy))(oZ:gT 3 nJ iz uw)(F:Fu zT yC f fd):FT 7 f fd o7 Ie:=by
 refine F.okT GX λai A outer s H E hr nd=>?_;refine⟨_,(bC (afM (bF yC) Dw Dw ["row"] (cR (qv 0)) (g_ (i:=0)) cJ (bH yE (bw (qv 0) bA)) (jC (i:=2) GX.nd rfl (Or.inl rfl)))
  (bC (jL 3 (dz bA))
  (bC (bQ 4 bx)
  (bC (eV (dG T.fj (bw (qv 1) bA)) (bW (n:=99) 5)
  (bC (bQ 6 (Tn 2 (bH tV (bw (qv 2) (bw (qv 4) (bw (qv 5) bA))))))
  (bG (cB (b_ Gi (qv 6) iK)
  (bC (Ii 2 3 v7 hr.md (by rfl) (bw (qv 4) (bw (qv 6) (bw (qv 5) bA))))
  (bC (Ii 2 3 pI hr.md (by rfl) (bw (qv 4) (bw (qv 5) bA)))
  (bG (afa 4 agW bx))))
  bR))))
  (bG (CP 3 (CP 2 (bM (cX (bw (qv 3) (bw (bH oZ (bw (qv 2) bA)) bA))))))))))),?_⟩
 rintro _ R ⟨ac,N,rfl,h,ok⟩;have lm:(ac.map yG).length=ac.length:=ak _;have ll:(ac.map mD).length=ac.length:=ak _;have few:=h.few;have b0:=h.b0;have e0:(ac.map λr=>rwT (mD r))=(ac.map mD).map rwT:=by rw[WS];rfl
 refine⟨by rw[lm];exact aL few (by decide),comp_map yG (λr=>rwT (mD r)) ac (λr hr N' M hN=>⟨r,rfl,by rw[h.wid r hr];lia,h.num r hr,bdN (aL (h.lev r hr).bot h.nn),hN⟩) ?_⟩;rw[e0];refine⟨⟨by lia,by lia⟩,oR (λc o=>∃rs ss x y,o=[.fz (.lst (ac.map yG)),.fz (.int ac.length),.l1 (rs.map rwT),.l1 ss,.fz (.int (c:Nat)),x,y]/\Gs (ac.map mD) (ac.length+1) N c rs/\ss.length<=102*c) ⟨_,[],_,_,rfl,b0.zero,aG _⟩ ?_ ?_⟩
 .rintro c _ hc ⟨rs,ss,x,y,rfl,g,sl⟩;have hc:c<ac.length:=by lia
  have cm:c<(ac.map mD).length:=by lia
  have l:=g.len;have hR:=h.rws g;have big:(20000:Nat)<sizeLine:=by decide
  refine⟨rs,_,c,c,rfl,hR,by lia,by exact WV _ hc,λq h1 h2 h3=>⟨trivial,rs,ss,_,c,q,c,rfl,rfl,hR,by exact Y3 h1 h2,h2,by exact WV _ hc,h3,by lia,λrs2 ss2 l2 e2 s2=>?_⟩,λz=>(g.found cm (WV _ hc) h.inj' λi a b=>z i a (by lia)).elim⟩;obtain⟨n1,n2,n3⟩:=g.next b0 cm (WV _ hc) h1 (aR h2 (WG l)) h3 (rs2:=rs2) λi hi=>e2 i (by lia);exact⟨rs2,ss2,_,c,c,rfl,rfl,Rws.mk' (λi hi=>n1 i (by lia)) (by lia) (by lia),by lia,by exact WV _ hc,by lia,λi hi=>n2 i (by lia),λh9 ss3 l3 e3 s3=>⟨h9,ss3,.fz (.int c),.fz (.int q),rfl,n3 h9 (by lia) λi hi=>e3 i (by lia),by lia⟩⟩
 .rintro _ ⟨rs,ss,x,y,rfl,g,sl⟩;have g:Gs (ac.map mD) (ac.length+1) N ac.length rs:=g;have hR:=h.rws g;have l:=g.len;refine⟨rs,_,rfl,hR,?_⟩;have:=ok ss _ (agp g) λi hi=>by
   have fb:i<(ac.map mD).length:=by lia
   have b:=g.bigM b0 fb;rw[ll]at b;exact FnB.vr b (by rw[(g.row i fb).2.1];exact X0 _)
  rw[<- afB h g]at this;exact this
open Rw (vr jy iT m6 gcL h_ gY qe lV Big pK jP mU j6 mK gw sg fJ eF bU fu fQ)
def Ea:ST:=λts q=>∃(ac:List (List Rat))(n:Nat),ts=[.lst (ac.map yG)]/\(∀r∈ac,r.length=n)/\(ac=[]->n=0)/\q (.fz (.int n))
def RN(T:Tx D)(F:Fu w6 zM f fd):FT 1 f fd nq Ea:=by
 refine F.okT Qk λai A outer s H E hr nd=>?_;refine⟨_,(bC (cB (b_ (go_eq hr.units) (bL cH T.dg WP (bw (qv 0) bA)) bx)
  (bG (bM bx))
  bR)
  (bG (bM (bL cH T.dg WP (bw (bI (qv 0) bx) bA))))),?_⟩
 rintro _ R ⟨ac,n,rfl,h,h0,q⟩
 match ac,h,h0 with
 |[],h,h0=>rw[h0 rfl]at q;exact q
 |r::ac,h,h0 =>
  have e:(r.map frR).length=n:=by rw[ak];exact h r (aO ..)
  rw[<- e]at q;exact⟨_,rfl,q⟩
theorem Qf(i:Nat):∀m,(List.range m).filter (λj=>decide (j=i))=if i<m then[i]else[]
 |0=>by rw[ZZ (WZ _)];rfl
 |m+1=>by
  rw[List.range_succ,List.filter_append,Qf i m];by_cases e:m=i
  .subst e;rw[ZZ (X2 _),ZY (X0 _)];simp
  .rw[Zwz (by simpa using e)];by_cases c:i<m
   .rw[ZY c,ZY (WV _ c)];rfl
   .rw[ZZ c,ZZ (by lia)];rfl
def vW:ST:=λts q=>∃(ac:List (List Rat))(aw:List Rat),ts=[.lst (ac.map yG),.lst (aw.map frR)]/\ac.length<=100/\(∀r∈ac,r.length<=100)/\q (.l1 ((List.zipWith (λr c=>r++[c]) ac aw).map yG))
def Gq(T:Tx D)(F:Fu oM mO f fd):FT 1 f fd je vW:=by
 refine F.okT GQ λai A outer s H E hr nd=>?_;refine⟨_,(bG (bM (fM (bF mO) qz qz ["row","right"] (Vl T.Wn (bw (qv 0) (bw (qv 1) bA))) (fW (n:=2) (bT (g_ (i:=0)) (bT (g_ (i:=1)) dO))) cJ (bJ cD (qv 0) (dz (bw (qv 1) bA)))))),?_⟩;rintro _ R ⟨ac,aw,rfl,h1,h2,q⟩;have zl:(ac.zip aw).length<=ac.length:=by rw[VV];exact Nat.min_le_left ..
 refine⟨by unfold Jx;rw[ak,VV,ak,ak];exact aL (aL (Nat.min_le_left ..) h1) (by decide),?_⟩;rw[zip_map];refine comp_map (λp=>.tup [yG p.1,frR p.2]) (λp=>yG (p.1++[p.2])) (ac.zip aw) (λp hp N M hN=>⟨rfl,?a,?b⟩) ?c
 case a =>
  have:=h2 _ (UX hp).1;show(p.1.map frR).length+1<=sizeLine;rw[ak];exact aL (show _<=101 by exact Nat.succ_le_succ this) (by decide)
 case b =>
  show N (.lst (p.1.map frR++[frR p.2]));rw[show(p.1.map frR++[frR p.2])=(p.1++[p.2]).map frR by rw[bf];rfl];exact hN
 case c =>
  rw[Zxw]at q;rw[List.zip,Zxw];exact q
def zY:ST:=λts q=>∃(m:Nat)(y:Nat->Rat),ts=[.lst (Kf m y),.int m]/\m<=100/\q (.l1 ((List.range m).map λi:Nat=>.int i))
def M4(T:Tx D)(F:Fu rW p8 f fd):FT 1 f fd lY zY:=by
 refine F.okT Ce λai A outer s H E hr nd=>?_;refine⟨_,(bC (jL 2 (dz bA))
  (bC (eV (cR (qv 0)) (bW (n:=99) 3)
  (bC (sS (bF p8) uN uN ["column"] (dG T.fj (bw (qv 1) bA)) (g_ (i:=0)) (VH (b_ (mj hr.units) (bI (qv 4) (qv 0)) (jY T.i_ T.gQ))) (qv 0) (jC (i:=4) Ce.nd rfl (Or.inl rfl)))
  (bG (cB (b_ KJ (bL cH T.dg WP (bw (qv 4) bA)) bx)
  (bG (tY 2 (bI (qv 4) bx)))
  bR))))
  (bG (oH 2)))),?_⟩
 rintro _ R ⟨m,y,rfl,h,q⟩;have sz:(1000:Nat)<=sizeLine:=by decide
 refine jc _ (List.range m) (λas o=>∃x z,o=[.fz (.lst (Kf m y)),.fz (.int m),.l1 (as.map λi:Nat=>.int i),x,z]) ⟨_,_,rfl⟩ ?_ ?_
 .rintro as i bs _ e ⟨x,z,rfl⟩;have hi:i<m:=List.mem_range.mp (e ▸ by simp);have la:as.length<m:=by have:=ZH List.length e;rw[WJ,aA,List.length_cons]at this;lia
  refine⟨⟨by lia,by lia⟩,by rw[rng,ak,WJ];exact aL (show _<=1000 by lia) sz,qd (λk:Nat=>.int (0+k)) (λj=>decide (j=i)) (λj=>.int (0+(j:Nat))) (List.range m) (λj hj N M h1 h2=>?_) ?_⟩
  .have hj:=List.mem_range.mp hj;show hName 0 (L2.T.int (0+((j:Nat):Int))) _ _;rw[show(0:Int)+((j:Nat):Int)=((j:Nat):Int)by lia]at h1 ⊢;refine⟨_,eE (VQ (WV _ hj)),?_⟩;by_cases c:j=i
   .refine swT ?_ (h1 (Zs c));show xr true (_&&_)=true;rw[ZY hj,ZY c.symm]
    rfl
   .refine swF ?_ (h2 (Zp c));show xr true (_&&_)=false;rw[ZY hj,ZZ (Ne.symm c)]
    rfl
  .rw[Qf,ZY hi];refine⟨_,rfl,by rw[ak];lia,.fz (.lst ((List.range (m+1)).map λj=>frR (if j<m then if i=j then 1 else 0 else y i))),.fz (.lst [.int (0+(i:Nat))]),?_⟩;rw[bf];show[_,_,OT.l1 (as.map _++[L2.T.int (0+(i:Nat))]),_,OT.fz (.lst [L2.T.int (0+(i:Nat))])]=[_,_,OT.l1 (as.map _++[L2.T.int (i:Nat)]),_,_];rw[show(0:Int)+((i:Nat):Int)=((i:Nat):Int)by exact Q3 _]
 .rintro _ ⟨x,z,rfl⟩;exact q
def IW:ST:=λts q=>∃(m:Nat)(y:Nat->Rat),ts=[.lst (Kf m y),.lst ((List.range m).map λi:Nat=>.int i),.int m]/\m<=100/\q (.fz .non)
def Vh(T:Tx D)(F:Fu zA C_ f fd):FT 1 f fd o8 IW:=by
 refine F.okT Ur λai A outer s H E hr nd=>?_;refine⟨_,(bC (eV (K4 T.fj (bw (bL cH T.dg WP (bw (qv 1) bA)) (bw (bL cH T.dg WP (bw (qv 0) bA)) bA))) (bW (n:=99) 3)
  (bG (cB (b_ (mj hr.units) (bI (bI (qv 0) (qv 3)) (qv 2)) (jY T.i_ T.gQ))
  (bG (bM (qv 3)))
  bR)))
  (bG (bM iK))),?_⟩
 rintro _ R ⟨m,y,rfl,h,q⟩;have l1:((List.range m).map λi:Nat=>L2.T.int i).length=m:=by rw[ak,WJ]
 have l2:(Kf m y).length=m:=by unfold Kf;rw[ak,WJ]
 refine⟨⟨by lia,by lia,by lia,by lia⟩,Bk (λ_ _=>True) _ 0 trivial (λi t o e z=>?_) λo _=>q⟩;have:=(aaI e).1;lia
def Cz:ST:=λts q=>∃(m:Nat)(y:Nat->Rat),ts=[.lst (Kf m y),.lst ((List.range m).map λi:Nat=>.int i),.int m]/\m<=100/\q (.l1 ((List.range m).map λi=>frR (y i)))
def Od(T:Tx D)(F:Fu tO uK f fd):FT 1 f fd lC Cz:=by
 refine F.okT M8 λai A outer s H E hr nd=>?_;refine⟨_,(bC (jL 3 (bJ dU (dz (bw (jY T.i_ T.gQ) bA)) (qv 2)))
  (bC (eV (BX T.nu (bw (qv 1) bA)) (fW (n:=2) (bT (bW (n:=99) 4) (bT (bW (n:=99) 5) dO)))
  (bG (wO 3 (bI (bI (qv 0) (qv 4)) (qv 2)) (qv 5))))
  (bG (oH 3)))),?_⟩
 rintro _ R ⟨m,y,rfl,h,q⟩;refine⟨⟨by lia,by lia,by show 1*_<=_;exact aL (show _<=100 by lia) (by decide)⟩,λz ez=>?_⟩;have ez:z=(List.range m).map λi=>if i<0 then frR (y i)else frR 0:=by
  rw[ez,List.flatten_replicate_singleton];refine TU (by rw[aN,ak,WJ];rfl) λn h1 h2=>?_;rw[List.getElem_replicate,UZ,ZZ (WZ _)]
  rfl
 subst ez;refine yF (λi:Nat=>.int i) (List.range m) (λk o=>∃x z,o=[.fz (.lst (Kf m y)),.fz (.lst ((List.range m).map λi:Nat=>.int i)),.fz (.int m),.l1 ((List.range m).map λi=>if i<k then frR (y i)else frR 0),x,z]) ⟨_,_,rfl⟩ ?_ ?_
 .rintro k i _ e ⟨x,z,rfl⟩;have hk:k<m:=by have:=(ao.mp e).1;rwa[WJ]at this
  rw[VQ hk]at e;cases e;refine⟨rfl,_,eE (VQ hk),_,eE (VQ (X0 m)),k,tX (by rw[ak,WJ];exact hk),.fz (.int k),.fz (.int k),?_⟩;have:((List.range m).map λi=>if i<k then frR (y i)else frR 0).set k (frR (if m<m then if k=m then 1 else 0 else y k))=(List.range m).map λi=>if i<k+1 then frR (y i)else frR 0:=by
   rw[ZZ (X2 _)];refine TU (by rw[WH,ak,ak]) λn h1 h2=>?_;rw[List.getElem_set,UZ,UZ,QU];by_cases c:k=n
   .rw[ZY c,ZY (by lia),c]
   .rw[ZZ c];by_cases d:n<k
    .rw[ZY d,ZY (WV _ d)]
    .rw[ZZ d,ZZ (by lia)]
  rw[<- this]
  rfl
 .rintro _ ⟨x,z,rfl⟩;have:((List.range m).map λi=>if i<(List.range m).length then frR (y i)else frR 0)=(List.range m).map λi=>frR (y i):=UU λi hi=>by rw[WJ,ZY (List.mem_range.mp hi)]
  rw[<- this]at q;exact q
open Rw (vr jy iT m6 gcL h_ gY qe lV Big pK jP mU j6 mK gw sg fJ eF bU fu fQ)
abbrev X6(ac:List (List Rat))(aw:List Rat):List (List Rat):=List.zipWith (λr c=>r++[c]) ac aw
def oW:ST:=λts R=>∃(ac:List (List Rat))(aw:List Rat)(N:Nat),ts=[.lst (ac.map yG),.lst (aw.map frR)]/\aw.length=ac.length/\(∀r∈ac,r.length=ac.length)/\Sys (X6 ac aw) N/\∀y:Nat->Rat,(∀r∈X6 ac aw,sg (λj=>r.getD j 0*y j) ac.length=r.getD ac.length 0)->(∀i,i<ac.length->FnB ((2*ac.length*N)^ac.length) (y i))->R (.l1 ((List.range ac.length).map λi=>frR (y i)))
def GZ(T:Tx D)(zE:gT 1 w6 nq Ea)(qu:gT 1 oM je vW)(Dd:gT 7 zT o7 Ie)(vq:gT 1 rW lY zY)(Dk:gT 1 zA o8 IW)(vQ:gT 1 tO lC Cz)(F:Fu lK qI f fd):FT 8 f fd gP oW:=by
 refine F.okT Iw λai A outer s H E hr nd=>?_;refine⟨_,(bC (bQ 2 (bH zE (bw (qv 0) bA)))
  (bC (bQ 3 (bI (bH Dd (bw (bH qu (bw (qv 0) (bw (qv 1) bA))) (bw (qv 2) bA))) bx))
  (bC (bQ 4 (bH vq (bw (qv 3) (bw (qv 2) bA))))
  (bC (cB (QW.qt (jV (b_ uz (bL cH T.dg WP (bw (qv 4) bA)) (qv 2)) (iM (b_ Gi (bH Dk (bw (qv 3) (bw (qv 4) (bw (qv 2) bA)))) iK))))
  (bG (bM iK))
  bR)
  (bG (bM (bH vQ (bw (qv 3) (bw (qv 4) (bw (qv 2) bA)))))))))),?_⟩
 rintro _ R ⟨ac,aw,N,rfl,hl,hw,h,ok⟩;have la:(X6 ac aw).length=ac.length:=by rw[TZ,hl,Up]
 have few:=h.few;rw[la]at few;refine⟨ac,ac.length,rfl,hw,λz=>by rw[z];rfl,ac,aw,rfl,few,λr hr=>by rw[hw r hr];exact few,X6 ac aw,N,?_,h,λss y h1 h2=>?_⟩
 .rw[la];rfl
 .rw[la]at h1 h2 ⊢;have lr:((List.range ac.length).map λi:Nat=>L2.T.int i).length=ac.length:=by rw[ak,WJ]
  exact⟨ac.length,y,rfl,few,swF (Zp (by show ¬((((List.range ac.length).map λi:Nat=>L2.T.int i).length:Nat):Int)<_;lia)) ⟨ac.length,y,rfl,few,ac.length,y,rfl,few,ok y h1 h2⟩⟩
open Rw (sg)
def rowsOf(f:Nat->Nat->Rat)(m:Nat):List (List T):=(List.range m).map λi=>(List.range m).map λj=>frR (f i j)
def jh:List (Nat×Rat)->Nat->Rat
 |[],_=>0
 |w::ws,j=>(if w.1=j then w.2 else 0)+jh ws j
def rY:Option cg->List (Nat×Rat)
 |none=>[]
 |some o=>o.ways
structure WyB(s:Rat)(m:Nat)(ws:List (Nat×Rat)):Prop where
 nd:(ws.map (·.1)).Nodup
 few:ws.length<=1000
 lt:∀w∈ws,w.1<m
 bq:∀w∈ws,Bq w.2/\Bd ((s.den:Int)*w.2.den)/\Bq (s*w.2)
def gG(s:Rat)(cs:List (Option cg))(i j:Nat):Rat:=(if j=i then 1 else 0)-s*jh (rY (cs.getD i none)) j
def tu:ST:=λts q=>∃(s:Rat)(cs:List (Option cg)),ts=[frR s,.lst (cs.map opT)]/\cs.length<=100/\Bq s/\(∀o∈cs,WyB s cs.length (rY o))/\q (.l2 (rowsOf (gG s cs) cs.length))
def RW(f:Nat->Nat->Rat)(m:Nat):(rowsOf f m).length=m:=by unfold rowsOf;rw[ak,WJ]
def Vz{f:Nat->Nat->Rat}{m i:Nat}(h:i<m):(rowsOf f m)[i]?=some ((List.range m).map λj=>frR (f i j)):=by
 unfold rowsOf;rw[aq,VQ h];rfl
def tU{f g:Nat->Nat->Rat}{m:Nat}(h:∀i j,i<m->j<m->f i j=g i j):rowsOf f m=rowsOf g m:=UU λi hi=>UU λj hj=>by rw[h i j (List.mem_range.mp hi) (List.mem_range.mp hj)]
def Zj{f g:Nat->Nat->Rat}{m i k:Nat}{v:Rat}(h:∀a b,a<m->b<m->g a b=if a=i/\b=k then v else f a b):(rowsOf f m).set i (((List.range m).map λj=>frR (f i j)).set k (frR v))=rowsOf g m:=by
 unfold rowsOf;refine TU (by rw[WH,ak,ak]) λa h1 h2=>?_;have ha:a<m:=by rw[ak,WJ]at h2;exact h2
 rw[List.getElem_set];by_cases e:i=a
 .rw[ZY e,UZ,QU];refine TU (by rw[WH,ak,ak]) λb h3 h4=>?_;have hb:b<m:=by rw[ak,WJ]at h4;exact h4
  rw[List.getElem_set,UZ,UZ,QU,h a b ha hb];by_cases c:k=b
  .rw[ZY c,ZY ⟨e.symm,c.symm⟩]
  .rw[ZZ c,ZZ λz=>c z.2.symm,e]
 .rw[ZZ e,UZ,UZ,QU];refine UU λb hb=>?_;rw[h a b ha (List.mem_range.mp hb),ZZ λz=>e z.1.symm]
def acy{f:Nat->Nat->Rat}{m i:Nat}(h:i<m):ixT (rowsOf f m) ((i:Nat):Int)=some ((List.range m).map λj=>frR (f i j)):=by
 show nth (rowsOf f m) i=_;rw[qQ,Vz h]
def Rk(as:List (Nat×Rat))(w:Nat×Rat)(j:Nat):jh (as++[w]) j=jh as j+if w.1=j then w.2 else 0:=by
 induction as with
 |nil=>show(_+(0:Rat))=0+_;grind
 |cons a as ih=>show _+jh (as++[w]) j=(_+jh as j)+_;rw[ih];grind
def W_{ws:List (Nat×Rat)}{j:Nat}(h:j∉ws.map (·.1)):jh ws j=0:=by
 induction ws with
 |nil=>rfl
 |cons a as ih =>
  show(if a.1=j then a.2 else 0)+jh as j=0;rw[ih λz=>h (aJ _ z),ZZ λz=>h (by rw[<- z];exact aO ..)]
  grind
def rZ(s:Rat)(cs:List (Option cg))(n:Nat)(as:List (Nat×Rat))(i j:Nat):Rat:=if i<n then gG s cs i j else if i=n then(if j=i then 1 else 0)-s*jh as j else if j=i then 1 else 0
def acr(s:Rat)(cs:List (Option cg))(n i j:Nat):rZ s cs n [] i j=if i<n then gG s cs i j else if j=i then 1 else 0:=by
 unfold rZ;split
 .rfl
 .split
  .show _-s*0=_;grind
  .rfl
def adT{s:Rat}{cs:List (Option cg)}{n:Nat}(i j:Nat):rZ s cs n (rY (cs.getD n none)) i j=if i<n+1 then gG s cs i j else if j=i then 1 else 0:=by
 unfold rZ;by_cases a:i<n
 .rw[ZY a,ZY (show i<n+1 by exact WV _ a)]
 .by_cases b:i=n
  .subst b;rw[ZZ a,ZY rfl,ZY (show i<i+1 by exact X0 _)]
   rfl
  .rw[ZZ a,ZZ b,ZZ (show ¬i<n+1 by lia)]
def Uj(s:Rat)(cs:List (Option cg))(n:Nat)(as:List (Nat×Rat))(j:Nat):rZ s cs n as n j=(if j=n then 1 else 0)-s*jh as j:=by unfold rZ;rw[ZZ (X2 _),ZY rfl]
def af6{s:Rat}{cs:List (Option cg)}{n i:Nat}(as bs:List (Nat×Rat))(j:Nat)(h:i≠n):rZ s cs n as i j=rZ s cs n bs i j:=by unfold rZ;rw[ZZ h,ZZ h]
def Nt(T:Tx D)(qG:gT 1 oU jx v9)(n_:gT 3 wY pq Bb)(Ov:gT 3 GP uP QZ)(F:Fu oA wU f fd):FT 4 f fd jE tu:=by
 refine F.okT MP λai A outer s H E hr nd=>?_;refine⟨_,(bC (jL 2 (bH qG (bw (bL cH T.dg WP (bw (qv 1) bA)) bA)))
  (bC (eV (BX T.nu (bw (qv 1) bA)) (fW (n:=2) (bT (bW (n:=99) 3) (bT (bW (n:=99) 4) dO)))
  (bG (cB (b_ Gi (qv 4) iK)
  (bG (eV (cR (bI (qv 4) bx)) (fW (n:=2) (bT (bW (n:=99) 5) (bT (bW (n:=99) 6) dO)))
  (bG (ac1 2 (bH n_ (bw (ade 2 (qv 3) (qv 5)) (bw (bH Ov (bw (qv 0) (bw (qv 6) bA))) bA))) (qv 3) (qv 5)))))
  bR)))
  (bG (oH 2)))),?_⟩
 rintro _ R ⟨s,cs,rfl,hm,hs,hw,q⟩;refine⟨cs.length,?_,hm,?_⟩
 .show[L2.T.int (((cs.map opT).length:Nat):Int)]=_;rw[ak]
 .have lc:∀x:Nat,((cs.map opT).length:Nat)=cs.length:=λ_=>ak _;refine yF opT cs (λn o=>∃x y z u,o=[.fz (frR s),.fz (.lst (cs.map opT)),.l2 (rowsOf (λi j=>if i<n then gG s cs i j else if j=i then 1 else 0) cs.length),x,y,z,u]) ⟨.und,.und,.und,.und,?_⟩ ?_ ?_
  .show[_,_,OT.l2 (rowsOf (λi j=>if j=i then 1 else 0) cs.length),_,_,_,_]=_;rw[tU (f:=λi j=>if j=i then 1 else 0) (g:=λi j=>if i<0 then gG s cs i j else if j=i then 1 else 0) λi j _ _=>by rw[ZZ (WZ _)]]
  .rintro n oo _ e ⟨x,y,z,u,rfl⟩;have hn:n<cs.length:=(ao.mp e).1;have eg:cs.getD n none=oo:=by rw[au,e];rfl
   have hb:=hw oo (aC e);rw[show rowsOf (λi j=>if i<n then gG s cs i j else if j=i then 1 else 0) cs.length=rowsOf (rZ s cs n []) cs.length from tU λi j _ _=>(acr s cs n i j).symm];rw[show rowsOf (λi j=>if i<n+1 then gG s cs i j else if j=i then 1 else 0) cs.length=rowsOf (rZ s cs n (rY oo)) cs.length from tU λi j _ _=>by rw[<- eg];exact(adT i j).symm];refine⟨rfl,?_⟩
   match oo,hb with
   |none,hb=>exact⟨_,_,_,_,rfl⟩
   |some o,hb =>
    refine jc nwT o.ways (λas ot=>∃z u,ot=[.fz (frR s),.fz (.lst (cs.map opT)),.l2 (rowsOf (rZ s cs n as) cs.length),.fz (.int n),.fz (ofT o),z,u]) ⟨_,_,rfl⟩ ?_ ?_
    .rintro as ⟨k,c⟩ bs _ e2 ⟨z,u,rfl⟩;have k7:(k,c)∈o.ways:=e2 ▸ by simp
     have hk:=hb.lt _ k7;obtain⟨c1,c2,c3⟩:=hb.bq _ k7;have nk:k∉as.map (·.1):=λz=>by
      have nd:=hb.nd;rw[show rY (some o)=o.ways from rfl,e2,bf]at nd;exact(List.nodup_append.mp nd).2.2 k z k (by simp) rfl
     have cell:rZ s cs n as n k=if k=n then 1 else 0:=by
      unfold rZ;rw[ZZ (X2 _),ZY rfl,W_ nk]
      grind
     have q1:Bq (rZ s cs n as n k)/\Bd (((rZ s cs n as n k).den:Int)*(s*c).den):=by
      rw[cell];split
      .exact⟨bq1,by show Bd (1*_);rw[UH];exact c3.2⟩
      .exact⟨bq0,by show Bd (1*_);rw[UH];exact c3.2⟩
     refine⟨rfl,_,(acy hn),_,eE (VQ hk),s,c,rfl,hs,c1,c2,_,_,rfl,q1.1,c3,q1.2,n,_,tX (by rw[RW];exact hn),Vz hn,k,tX (by rw[ak,WJ];exact hk),.fz (.int k),.fz (frR c),?_⟩;rw[<- Zj (f:=rZ s cs n as) (g:=rZ s cs n (as++[(k,c)])) (i:=n) (k:=k) (v:=rZ s cs n as n k-s*c) λa b _ _=>?_]
     .rfl
     .by_cases a1:a=n
      .subst a1;rw[Uj,Rk];by_cases b1:b=k
       .subst b1;rw[ZY (show a=a/\b=b from⟨rfl,rfl⟩),Uj,ZY (show(b,c).1=b from rfl)]
        grind
       .rw[ZZ (show ¬(a=a/\b=k)from λz=>b1 z.2),Uj,ZZ (show ¬(k,c).1=b from λz=>b1 z.symm)]
        grind
      .rw[ZZ (show ¬(a=n/\b=k)from λz=>a1 z.1)];exact af6 _ _ _ a1
    .rintro _ ⟨z,u,rfl⟩;exact⟨_,_,_,_,rfl⟩
  .rintro _ ⟨x,y,z,u,rfl⟩;rw[show rowsOf (gG s cs) cs.length=rowsOf (λi j=>if i<cs.length then gG s cs i j else if j=i then 1 else 0) cs.length from tU λi j hi _=>by rw[ZY hi]]at q;exact q
open Rw (sg)
def ami:Option cg->Rat
 |none=>0
 |some o=>o.pay
def Ue{off:List (List cg)}{pl:List (Option Nat)}(h:PlT off pl):(chO off pl).length=off.length:=by unfold chO;rw[ak,Zxq,h.len]
def amk(ws:List (Nat×Rat))(tp:List Int):Rat:=(ws.map λw=>w.2*((tp.getD w.1 0:Int):Rat)).sum
def ako(s:Rat)(tp:List Int)(B:Nat)(o:cg):Rat:=o.pay*(B:Rat)+s*amk o.ways tp
def ai8(rs:List Rat)(d b:Nat):Prop:=(∀x∈rs,x<=rs.getD d 0)/\b=d\/((rs.getD d 0)<rs.getD b 0/\b<rs.length/\(∀x∈rs,x<=rs.getD b 0)/\∀i,i<b->rs.getD i 0≠rs.getD b 0)
structure alN(s:Rat)(off:List (List cg))(tp:List Int)(B:Nat)(pl mw:List (Option Nat)):Prop where
 len:mw.length=pl.length
 none:∀k:Nat,pl[k]?=some none->mw[k]?=some none
 some:∀(k d:Nat)(ds:List cg),pl[k]?=some (some d)->off[k]?=some ds->∃b,mw[k]?=some (some b)/\ai8 (ds.map (ako s tp B)) d b
open Rw (sg fJ eF bU fu fQ)
def dw(ws:List (Nat×Rat))(x:Nat->Rat):Rat:=(ws.map λw=>w.2*x w.1).sum
def Jp(ws:List (Nat×Rat)):Rat:=(ws.map (·.2)).sum
theorem fP(w:Nat×Rat)(ws:List (Nat×Rat))(x:Nat->Rat):dw (w::ws) x=w.2*x w.1+dw ws x:=rfl
theorem DR(w:Nat×Rat)(ws:List (Nat×Rat)):Jp (w::ws)=w.2+Jp ws:=rfl
theorem VJ{M:Rat}{x:Nat->Rat} : ∀{ws:List (Nat×Rat)},(∀w∈ws,0<=w.2/\x w.1<=M)->dw ws x<=Jp ws*M
 |[],_=>by show(0:Rat)<=0*M;rw[Zzt];exact UT
 |w::ws,h=>by
  rw[fP,DR];have:=VJ (ws:=ws) λv hv=>h v (aJ _ hv);obtain⟨a,b⟩:=h w (aO ..);have:=Zzs b a
  grind
theorem aeW{m:Nat}{x:Nat->Rat} : ∀{ws:List (Nat×Rat)},(∀w∈ws,w.1<m)->sg (λj=>jh ws j*x j) m=dw ws x
 |[],_=>by
  show sg (λj=>0*x j) m=0;rw[bU (g:=λ_=>0) λj _=>Zzt _,fu]
 |w::ws,h=>by
  rw[fP,<- aeW (m:=m) (ws:=ws) λv hv=>h v (aJ _ hv)];rw[bU (g:=λj=>(if j=w.1 then 1 else 0)*(w.2*x j)+jh ws j*x j) λj _=>?_,fJ,fQ (v:=λj=>w.2*x j),ZY (h w (aO ..))];show((if w.1=j then w.2 else 0)+jh ws j)*x j=_;by_cases e:w.1=j
  .rw[ZY e,ZY e.symm];grind
  .rw[ZZ e,ZZ (Ne.symm e)];grind
theorem Zb(x:Nat->Rat):∀{m:Nat},0<m->∃i,i<m/\∀j,j<m->x j<=x i
 |0,h=>absurd h (WZ _)
 |1,_=>⟨0,UP,λj hj=>by rw[show j=0 by exact Nat.eq_zero_of_le_zero (UV hj)];exact UT⟩
 |m+2,_=>by
  obtain⟨i,hi,h⟩:=Zb x (m:=m+1) (UK _);by_cases c:x i<=x (m+1)
  .refine⟨m+1,by exact X0 _,λj hj=>?_⟩;by_cases e:j=m+1
   .rw[e];exact UT
   .exact QR (h j (XX (UV hj) e)) c
  .refine⟨i,by exact Ts hi (X0 _),λj hj=>?_⟩;by_cases e:j=m+1
   .rw[e];exact Rat.le_of_lt (Rat.not_le.mp c)
   .exact h j (XX (UV hj) e)
structure ShB(s:Rat)(m:Nat)(ws:List (Nat×Rat)):Prop where
 lt:∀w∈ws,w.1<m
 nn:∀w∈ws,0<=w.2
 one:Jp ws<=1
def sub_le{m:Nat}{s:Rat}{ws:Nat->List (Nat×Rat)}{x:Nat->Rat}(s0:0<=s)(s1:s<1)(hw:∀i,i<m->ShB s m (ws i))(h:∀i,i<m->x i<=s*dw (ws i) x):∀j,j<m->x j<=0:=λj hj=>by
 obtain⟨i,hi,mx⟩:=Zb x (m:=m) (by lia);refine QR (mx j hj) (Rat.not_lt.mp λp=>?_);have b:=hw i hi;have d:dw (ws i) x<=Jp (ws i)*x i:=VJ λw hw=>⟨b.nn w hw,mx _ (b.lt w hw)⟩;have e:Jp (ws i)*x i<=1*x i:=Rat.mul_le_mul_of_nonneg_right b.one (Rat.le_of_lt p);have f:=Zzs (QR d e) s0;have g:=h i hi;have k:s*x i<1*x i:=Rat.mul_lt_mul_of_pos_right s1 p
 grind
def afP{s:Rat}{cs:List (Option cg)}{x:Nat->Rat}{i:Nat}(hi:i<cs.length)(h:∀w∈rY (cs.getD i none),w.1<cs.length):sg (λj=>gG s cs i j*x j) cs.length=x i-s*dw (rY (cs.getD i none)) x:=by
 rw[<- aeW h,bU (g:=λj=>(if j=i then 1 else 0)*x j+(-s)*(jh (rY (cs.getD i none)) j*x j)) λj _=>by unfold gG;grind,fJ,eF,fQ (v:=x),ZY hi]
 grind
theorem aaG(x:Nat->Rat):∀ws:List (Nat×Rat),dw ws (λj=>-(x j))=-(dw ws x)
 |[]=>by show(0:Rat)=-0;grind
 |w::ws=>by rw[fP,fP,aaG x ws];grind
open Rw (sg fJ eF bU fu fQ Big)
def ac5{A Q:Nat}{r:List Rat}(hA:1<=A)(hQ:0<Q)(h:∀c∈r,c.den ∣ Q/\c.num.natAbs<=A*c.den):Big (A*Q) (mD r):=by
 have hB:=m9 r UP;have hd:iQ 1 r ∣ Q:=sZ r (U1 _) λc hc=>(h c hc).1;have le:=UY hQ hd;refine⟨by show(0:Int)<(iQ 1 r:Nat);lia,?_,λt ht=>?_⟩
 .show((iQ 1 r:Nat):Int).natAbs<=A*Q;rw[XT];exact aL le (Zxy _ hA)
 .obtain⟨c,hc,rfl⟩:=YV.mp ht;rw[VU,XT];refine aL (Nat.mul_le_mul_right _ (h c hc).2) ?_;rw[Nat.mul_assoc,Nat.mul_div_cancel' ((m7 r).2 c hc)];exact Zzr _ le
def anv(s:Rat)(y:Nat->Rat)(o:cg):Rat:=o.pay+s*dw o.ways y
def anw(s:Rat)(y:Nat->Rat)(c:Option cg):Rat:=ami c+s*dw (rY c) y
def ajQ{off:List (List cg)}{pl:List (Option Nat)}{i:Nat}{d:Option Nat}(e:pl[i]?=some d):(chO off pl).getD i none=d.bind λd=>(off.getD i [])[d]?:=by
 unfold chO;rw[au,aq,List.getElem?_zipIdx,e];simp
theorem El{α:Type}{g:α->PyData}(h:∀x,PyData.canLay0 (g x)=true):∀xs:List α,PyData.canLayAll0 (xs.map g)=true
 |[]=>rfl
 |x::xs=>by rw[List.map_cons];unfold PyData.canLayAll0;rw[El h xs,h x];rfl
theorem Jk{α:Type}{g:α->PyData}{n:Nat}(h:∀x,PyData.depth (g x)<=n):∀xs:List α,PyData.depthAll (xs.map g)<=n
 |[]=>aZ _
 |x::xs=>by
  rw[List.map_cons];unfold PyData.depthAll;have:=Jk h xs;have:=h x;lia
theorem HN{α:Type}{g:α->PyData}{h:α->T}(e:∀x,h x=ofD (g x)):∀xs:List α,xs.map h=Zr (xs.map g)
 |[]=>rfl
 |x::xs=>by rw[List.map_cons,List.map_cons,HN e xs,e x];rfl
theorem Sh{α:Type}[DecidableEq α]{g:α->PyData}(h:∀x y,PyData.eqv (g x) (g y)=decide (x=y)):∀xs ys:List α,PyData.eqvAll (xs.map g) (ys.map g)=decide (xs=ys)
 |[],[]=>rfl
 |[],_::_=>rfl
 |_::_,[]=>rfl
 |x::xs,y::ys=>by
  rw[List.map_cons,List.map_cons];unfold PyData.eqvAll;rw[h,Sh h xs ys,<- Bool.decide_and];exact decide_eq_decide.mpr ⟨λz=>by rw[z.1,z.2],λz=>List.cons.inj z⟩
structure EqD{α:Type}[DecidableEq α](h:α->T)(g:α->PyData):Prop where
 of:∀x,h x=ofD (g x)
 lay:∀x,PyData.canLay0 (g x)=true
 dep:∀x,PyData.depth (g x)<=60
 eqv:∀x y,PyData.eqv (g x) (g y)=decide (x=y)
def EqD.lst{α:Type}[DecidableEq α]{h:α->T}{g:α->PyData}(E:EqD h g)(xs:List α):SeqAt.shaped (.list (xs.map g))=true:=by
 have h1:PyData.canLay0 (.list (xs.map g))=true:=by unfold PyData.canLay0;exact El E.lay xs
 have h2:PyData.depth (.list (xs.map g))<=64:=by unfold PyData.depth;have:=Jk E.dep xs;lia
 unfold SeqAt.shaped;rw[h1,Zs h2];rfl
def EqD.gEq{α:Type}[DecidableEq α]{h:α->T}{g:α->PyData}(E:EqD h g){neg:Bool}{a c:List α}{q:OT->Prop}(hq:q (.fz (.bl (xr neg (decide (a=c)))))):gEq neg (.lst (a.map h)) (.lst (c.map h)) q:=by
 refine⟨.list (a.map g),.list (c.map g),ZH L2.T.lst (HN E.of a),ZH L2.T.lst (HN E.of c),E.lst a,E.lst c,?_⟩;unfold PyData.eqv;rw[Sh E.eqv];exact hq
def dD:Option Nat->PyData
 |none=>.none
 |some d=>.int (d:Nat)
def aak:EqD dT dD:=⟨λx=>by cases x<;>rfl,λx=>by cases x<;>rfl,λx=>by cases x<;>exact aZ _,λx y=>by
 cases x<;>cases y
 .rfl
 .rfl
 .rfl
 .rename_i a b
  show decide ((a:Int)=(b:Int))=_;exact decide_eq_decide.mpr ⟨λz=>by rw[Int.ofNat.inj z],λz=>by rw[Option.some.inj z]⟩⟩
def G8(T:Tx D)(F:Fun K wL wI qF f fd):dI P w K mg base CX0 1 f fd gK (Yp D.NoPlan "room"):=by
 refine F.okB Jq ?_ ?_
 .rintro _ _ _ _ ⟨a,v,rfl,_⟩;rfl
 .rintro ai A outer s H _ Q E hr ⟨a,v,rfl,ha,q⟩;refine⟨_,(K5 (PSB.mk (iY (SM T.ib_HallError T.xi_NoPlan (by rfl) T.Em (cA (pv 0) (cA Dp jf)))))
   (RK (PSB.mk (WD (pv 0) (pv 1) rfl)))),?_⟩
  exact⟨_,rfl,a,[_],rfl,ha,by decide,_,rfl,_,rfl,a,D.NoPlan,rfl,ha,T.xs_NoPlan,T.vX,q⟩
def Ik(t:L2.T)(n:Nat):Option Bool:=if n=0 then match t with|.non=>some true|.any=>none|.val _=>none|_=>some false else match t with|.int k=>some (decide (0<=k)&&decide (k<n))|_=>(isW t).map λ_=>false
def Ih:ST:=λts q=>∃(t:L2.T)(n:Nat)(b:Bool),ts=[t,.int n]/\Ik t n=some b/\q (.fz (.bl b))
def aaY(T:Tx D)(cG:gT 1 gU fG jg)(F:Fu uc NQ f fd):FT 2 f fd oG Ih:=by
 refine F.okT Vy λai A outer s H E hr nd=>?_;refine⟨_,(bC (cB (b_ (go_eq hr.units) (qv 1) bx)
  (bG (bM (mC TX (qv 0) iK)))
  bR)
  (bG (bM (xQ (bH cG (bw (qv 0) bA)) (zj (Ib HD uz bx (qv 0) (qv 1))))))),?_⟩
 rintro _ R ⟨t,n,b,rfl,hb,q⟩;by_cases e:n=0
 .subst e;cases t<;>cases hb<;>exact q
 .refine swF (Zp (by lia)) ?_;unfold Ik at hb;rw[ZZ e]at hb;cases t with
  |int k =>
   cases hb;refine⟨_,_,rfl,rfl,?_⟩;show sw (decide (0<=k)) (R (.fz (.bl (decide (k<(n:Int)))))) (R (.fz (.bl false)));by_cases k0:0<=k
   .rw[Zs k0,Bool.true_and]at q;exact swT (Zs k0) q
   .rw[Zp k0,Bool.false_and]at q;exact swF (Zp k0) q
  |_=>cases hb<;>exact⟨_,_,rfl,rfl,q⟩
inductive PlX(off:List (List cg)):L2.T->L2.T->Prop
 |kind {t:L2.T} : isK .list t=some false->PlX off t .non
 |len {ts:List L2.T} : ts.length≠off.length->PlX off (.lst ts) .non
 |at{ts:List L2.T}{k:Nat}{t:L2.T}{ds:List cg} : ts.length=off.length->(∀(j:Nat)(u:L2.T)(es:List cg),j<k->ts[j]?=some u->off[j]?=some es->Ik u es.length=some true)->ts[k]?=some t->off[k]?=some ds->Ik t ds.length=some false->PlX off (.lst ts) (.int k)
def uM(D:Adr):SX:=λts _ z=>∃(s:Rat)(ns:Θ)(off:List (List cg))(v w:L2.T),ts=[hlT D s ns off,v]/\Kq ns off/\PlX off v w/\z D.NoPlan ["room"] [w]
def uX(T:Tx D)(gC:OkI P w K mg base CX0 1 D.NoPlan_init gK (Yp D.NoPlan "room"))(pA:gT 2 uc oG Ih)(cu:gI 1 D.Hall_size dJ (gq D))(cN:gI 3 D.Hall_offers d_ (qX D))(F:Fu iG lJ f fd):dI P w K mg base (CXO P w) 4 f fd fD (spX K (uM D)):=by
 refine F.okTX yR λai A outer s H E hr nd=>?_;refine⟨_,(bC (cB (QW.qt (jV (dW (dN (mF .list (qv 1) T.cW T.tH boot_list))) (iM (b_ (mj hr.units) (bL cH T.dg WP (bw (qv 1) bA)) (pO (qv 0) T.gJ T.jz cu (KS:=iV))))))
  (bG (Gv rfl T.Jf T.xi_NoPlan gC iK))
  bR)
  (bC (eV (BX T.nu (bw (qv 1) bA)) (fW (n:=2) (bT (bW (n:=99) 2) (bT (bW (n:=99) 3) dO)))
  (bG (cB (dW (dN (bH pA (bw (qv 3) (bw (bL cH T.dg WP (bw (BK (qv 0) T.gJ T.oN cN (bw (qv 2) bA) (KS:=iV)) bA)) bA)))))
  (bG (Gv rfl T.Jf T.xi_NoPlan gC (qv 2)))
  bR)))
  (bG (bM k_)))),?_⟩
 rintro _ R Z ⟨s,ns,off,v,w,rfl,h,hp,q⟩;cases hp with
 |kind e =>
  cases v<;>first|exact q|cases e
 |len e =>
  refine⟨⟨rfl,rfl⟩,_,_,_,rfl,swT ?_ ?_⟩
  .have hl:=h.len;rw[Zp (λz=>e (by lia))]
   rfl
  .exact q
 |@«at» us k t ds l hf et eo ef =>
  refine⟨⟨rfl,rfl⟩,_,_,_,rfl,swF ?_ ?_⟩
  .show xr true (decide (((us.length:Nat):Int)=(ns.length:Nat)))=false;rw[l,h.len,Zs rfl]
   rfl
  .have hk:k<us.length:=(ao.mp et).1;rw[show us=us.map λt=>t from(List.map_id' us).symm];refine yF (λt=>t) us (λj o=>j<=k/\∃x y,o=[.fz (hlT D s ns off),.fz (.lst (us.map λt=>t)),x,y]) ⟨aZ _,_,_,rfl⟩ ?_ ?_
   .rintro j u _ e ⟨jk,x,y,rfl⟩;have lj:j<off.length:=by rw[<- l];exact(ao.mp e).1
    have ej:=aj lj;by_cases c:j=k
    .subst c;rw[et]at e;cases e;rw[eo]at ej;have ds':(off[j]).length=ds.length:=by rw[Option.some.inj ej]
     refine⟨rfl,⟨rfl,rfl⟩,_,_,_,j,_,rfl,h,eo,t,ds.length,false,?_,ef,q⟩;show[t,L2.T.int (((ds.map ofT).length:Nat):Int)]=_;rw[ak]
    .refine⟨rfl,⟨rfl,rfl⟩,_,_,_,j,_,rfl,h,ej,u,(off[j]).length,true,?_,hf j u _ (XX jk c) e ej,?_⟩
     .show[u,L2.T.int ((((off[j]).map ofT).length:Nat):Int)]=_;rw[ak]
     .exact⟨by lia,_,_,rfl⟩
   .rintro _ ⟨z,x,y,rfl⟩;exact absurd z (Nat.not_le_of_lt hk)
def Y7{t u:TS}{D:Ends}{σ:L2.St}{H:Hp}(h:∀u',u'=u->Xi t u' D σ H):Xi t u D σ H:=h u rfl
def agY{t u:TS}{D:Ends}{σ:L2.St}{H:Hp}(h:t { D with nx:=u D } σ H):Xi t u D σ H:=h
def yp{α:Type}(l:List α)(c:Int){m:Nat}(hl:l.length=m)(h0:0<m):∃t,t∈l/\ixT l (c%(m:Nat))=some t:=by
 have a:=Z3 c (show((m:Nat):Int)≠0 by lia);have b:=YY c (show(0:Int)<(m:Nat)by lia);obtain⟨k,e⟩:=Zxu a;have hk:k<l.length:=by lia
 refine⟨l[k],aU hk,?_⟩;rw[e];show nth l k=_;rw[qQ,aj hk]
def Zf:ST:=λts q=>∃(c:Int)(n:Nat),ts=[.int c,.int (n:Nat)]/\n<=100/\∀t,Ik t n=some false->q (.fz t)
def agv(T:Tx D)(F:Fu Tc aaw f fd):FT 1 f fd Jg Zf:=by
 refine F.okT ae6 λai A outer s H E hr nd=>?_;refine⟨_,(bC (cB (b_ (go_eq hr.units) (qv 1) bx)
  (bG (bM (bI (dz (bw bx (bw k_ (bw j7 (bw (zu bx) (bw (dz bA) (bw (cX (bw bx (bw bx bA))) bA))))))) (bJ cj (qv 0) bx))))
  bR)
  (bG (bM (bI (dz (bw iK (bw (zu bx) (bw (qv 1) (bw k_ (bw k_ (bw j7 (bw (dz (bw bx bA)) (bw (bJ cD (qv 1) (bJ Gr bx bx)) bA))))))))) (bJ cj (qv 0) bx))))),?_⟩
 rintro _ R ⟨c,n,rfl,nl,q⟩;refine swD (λh=>?_) λh=>?_
 .have n0:n=0:=by lia
  subst n0;refine⟨by decide,?_⟩;obtain⟨t,ht,e⟩:=yp [L2.T.int 0,.bl false,.str "",.int (-1),.lst [],.tup [.int 0,.int 1]] c rfl (by decide);refine⟨t,e,q t ?_⟩
  revert t
  simp only[YU,VZ,or_false];rintro t (rfl|rfl|rfl|rfl|rfl|rfl) _<;>rfl
 .have n0:n≠0:=by lia
  refine⟨?_,?_⟩
  .exact⟨by decide,by decide⟩
  have rf:(10:Int)^Int.toNat 30=10^30:=rfl;dsimp only[frz];rw[rf];refine⟨by decide,?_⟩;obtain⟨t,ht,e⟩:=yp [L2.T.non,.int (-1),.int (n:Nat),.bl true,.bl false,.str "0",.lst [.int 0],.int ((n:Nat)+10^30)] c (m:=8) rfl (by decide);refine⟨t,e,q t ?_⟩
  revert t
  simp only[YU,VZ,or_false];have big:(100:Int)<10^30:=by decide
  rintro t (rfl|rfl|rfl|rfl|rfl|rfl|rfl|rfl) _<;>unfold Ik<;>rw[ZZ n0]<;>first|rfl|(refine ZH some ?_;rw[Zp (show ¬(_:Int)<(n:Nat)by lia),Bool.and_false])
def iB{i:Int}(h:i.natAbs<18446744073709551616):Bd i:=aR h (aL (by decide:18446744073709551616<=2^64) (XU (by decide) (by decide)))
abbrev scT(ns:List Int):T:=.scr (ns.map T.int)
def Ms:ST:=λts q=>∃(ns:List Int)(k:Nat),ts=[scT ns,.int (k:Nat)]/\ns.length<=100/\q (.fz (.int (ns.getD k 0)))
def Am{α β:Type}(h:α->β)(l:List α)(lo hi:Option Int):gR (l.map h) lo hi=(gR l lo hi).map h:=by unfold gR;rw[ak,List.map_take,List.map_drop]
def ad0{α:Type}(l:List α)(k:Nat):gR l (some (k:Int)) (some ((k:Int)+1))=(l.drop k).take 1:=by
 unfold gR HT.sIx;show List.take ((if(k:Int)+1<0 then _ else min ((k:Int)+1).toNat l.length)-(if(k:Int)<0 then _ else min (k:Int).toNat l.length)) (List.drop (if(k:Int)<0 then _ else min (k:Int).toNat l.length) l)=_;rw[ZZ (by lia),ZZ (Int.not_lt_of_ge (X9 _))];by_cases h:k<l.length
 .rw[show min ((k:Int)+1).toNat l.length=k+1 by lia,show min (k:Int).toNat l.length=k by lia,show k+1-k=1 by exact Tk _ _]
 .rw[show min (k:Int).toNat l.length=l.length by lia,List.drop_length,Th (VS h),List.take_nil,List.take_nil]
def adM(F:Fu FJ Tg f fd):FT 1 f fd yr Ms:=by
 refine F.okT ab0 λai A outer s H E hr nd=>?_;refine⟨_,(bG (bM (bI (bJ cD (jT (qv 0) (gZ (qv 1)) (gZ (bJ cD (qv 1) bx))) (dz (bw bx bA))) bx))),?_⟩;rintro _ R ⟨ns,k,rfl,hl,q⟩;have e:gR (ns.map L2.T.int) (some (k:Int)) (some ((k:Int)+1))=((ns.drop k).take 1).map L2.T.int:=by rw[Am,ad0]
 refine⟨?_,.int (ns.getD k 0),?_,q⟩
 .show(gR (ns.map L2.T.int) (some (k:Int)) (some ((k:Int)+1))).length+1<=sizeLine;rw[e,ak,aY];exact aL (show _<=2 by lia) (by decide)
 .show ixT (gR (ns.map L2.T.int) (some (k:Int)) (some ((k:Int)+1))++[L2.T.int 0]) 0=_;rw[e];by_cases h:k<ns.length
  .rw[Q1 h,List.take_succ_cons,au,aj h]
   rfl
  .rw[Th (VS h),au,aM (VS h)]
   rfl
def strN(c:Int):Nat->Int×Int
 |0=>((c%1999999973+31)*765432101%1999999973,if c<0\/10^18<=c then(c.natAbs:Int)else 0)
 |k+1=>(((strN c k).1*((strN c k).1%65521+40487)+7*(k:Int)+5)%1999999973,(strN c k).2.fdiv 1000000)
def strm(c:Int)(k:Nat):Int:=if 0<(strN c k).2 then(strN c k).2%1000000 else(strN c (k+1)).1
def W3(c:Int):∀k,0<=(strN c k).1/\(strN c k).1<1999999973
 |0=>⟨Z3 _ (by decide),YY _ (by decide)⟩
 |_+1=>⟨Z3 _ (by decide),YY _ (by decide)⟩
def lF(c:Int)(k:Nat):0<=strm c k/\strm c k<2000000000:=by
 unfold strm;have:=W3 c (k+1);split<;>lia
abbrev jQ(c:Int)(n:Nat):List Int:=(List.range n).map (strm c)
def iI:ST:=λts q=>∃(c:Int)(n:Nat),ts=[.int c,.int (n:Nat)]/\n<=1000/\q (.l1 ((jQ c n).map T.int))
def Yi(T:Tx D)(F:Fu gF Hw f fd):FT 1 f fd dY iI:=by
 refine F.okT W7 λai A outer s H E hr nd=>?_;refine⟨_,(bC (jL 2 (dz bA))
  (bC (bQ 3 (bJ cj (bJ dU (bJ cD (bJ cj (qv 0) bx) bx) bx) bx))
  (bC (bQ 4 bx)
  (bC (cB (QW.qt (jV (b_ uz (qv 0) bx) (iM (b_ aek (qv 0) (bJ Gr bx bx)))))
  (bG (bQ 4 (bL I8 T.R5 boot_abs (bw (qv 0) bA))))
  bR)
  (bC (eV (dG T.fj (bw (qv 1) bA)) (bW (n:=99) 5)
  (bC (bQ 3 (bJ cj (bJ cD (bJ cD (bJ dU (qv 3) (bJ cD (bJ cj (qv 3) bx) bx)) (bJ dU bx (qv 5))) bx) bx))
  (bC (tY 2 (bI (dz (bw (qv 3) (bw (bJ cj (qv 4) bx) bA))) (jJ ZM T.Vv boot_int (bw (mC KJ (qv 4) bx) bA))))
  (bG (bQ 4 (bJ mH (qv 4) bx))))))
  (bG (oH 2))))))),?_⟩
 rintro _ R ⟨c,n,rfl,hn,q⟩;refine sq4 (λo=>o=[.fz (.int c),.fz (.int (n:Nat)),.l1 [],.fz (.int (strN c 0).1),.fz (.int (strN c 0).2),.und]) ?_ λY go=>?_
 .rintro _ rfl;refine⟨⟨by lia,by lia⟩,?_⟩;refine oR (λk o=>∃x,o=[.fz (.int c),.fz (.int (n:Nat)),.l1 ((jQ c k).map L2.T.int),.fz (.int (strN c k).1),.fz (.int (strN c k).2),x]) ⟨_,rfl⟩ ?_ ?_
  .rintro k _ hk ⟨x,rfl⟩;have b:=W3 c k;refine⟨by decide,⟨iB (by lia),iB (by lia)⟩,⟨iB (by decide),iB (by lia)⟩,by decide,by decide,.int (strm c k),?_,?_,⟨by decide,iB (by decide)⟩,.fz (.int k),?_⟩
   .by_cases h:0<(strN c k).2
    .rw[Zs h];unfold strm;rw[ZY h]
     rfl
    .rw[Zp h];unfold strm;rw[ZZ h]
     rfl
   .rw[ak,ak,WJ];exact aR (show k<1001 by lia) (by decide)
   .rw[show jQ c (k+1)=jQ c k++[strm c k]by simp[jQ,List.range_succ],bf]
    rfl
  .rintro _ ⟨x,rfl⟩;exact q
 .refine⟨by decide,⟨iB (by lia),iB (by decide)⟩,by decide,?_⟩;refine swD (λh=>go _ ?_) λh=>⟨⟨by decide,by decide,by decide⟩,swD (λh'=>go _ ?_) λh'=>go _ ?_⟩
  .show _=[_,_,_,_,OT.fz (L2.T.int (if c<0\/10^18<=c then(c.natAbs:Int)else 0)),_];rw[ZY (.inl h)]
   rfl
  .show _=[_,_,_,_,OT.fz (L2.T.int (if c<0\/10^18<=c then(c.natAbs:Int)else 0)),_];rw[ZY (.inr h')]
   rfl
  .show _=[_,_,_,_,OT.fz (L2.T.int (if c<0\/10^18<=c then(c.natAbs:Int)else 0)),_];rw[ZZ (λz=>z.elim h h')]
   rfl
def T_:ST:=λts q=>∃a b:Int,ts=[.int a,.int b]/\q (.fz (.int (Int.gcd a b)))
def af5(T:Tx D)(F:Fu Ny abm f fd):FT 1 f fd xJ T_:=by
 refine F.okT abA λai A outer s H E hr nd=>?_;refine⟨_,(bC (zF (bL X7 T.aar boot_sorted (bw (dz (bw (bL I8 T.R5 boot_abs (bw (qv 0) bA)) (bw (bL I8 T.R5 boot_abs (bw (qv 1) bA)) bA))) bA)) (afp (n:=2) rfl (bT (bW (n:=99) 2) (bT (bW (n:=99) 3) dO))))
  (bC (Rb (b_ KJ (qv 2) bx)
  (bG (ahb 2 3 rfl abA.nd (by decide) (bw (bJ cj (qv 3) (qv 2)) (bw (qv 2) bA)))))
  (bG (bM (qv 3))))),?_⟩
 rintro _ R ⟨a,b,rfl,q⟩;refine⟨[(a.natAbs:Int),(b.natAbs:Int)],rfl,by simp,λms pm so=>?_⟩;obtain⟨l,h,rfl,hg⟩ : ∃l h:Nat,ms=[(l:Int),(h:Int)]/\Nat.gcd l h=Int.gcd a b:=by
  have ln:=pm.length_eq
  match ms,ln with
  |[x,y],_ =>
   have hx:x=(a.natAbs:Int)\/x=(b.natAbs:Int):=by simpa using pm.subset (aO ..)
   rcases hx with rfl|rfl
   .have:=(List.perm_cons _).mp pm;have:=List.perm_singleton.mp this;cases this;exact⟨_,_,rfl,rfl⟩
   .have:=(List.perm_cons _).mp (pm.trans (List.Perm.swap _ _ _));have:=List.perm_singleton.mp this;cases this;exact⟨_,_,rfl,Nat.gcd_comm _ _⟩
 refine⟨rfl,λm o=>∃(l h:Nat),o=[.fz (.int a),.fz (.int b),.fz (.int l),.fz (.int h)]/\Nat.gcd l h=Int.gcd a b/\m=l,⟨_,_,_,rfl,hg,rfl⟩,?_⟩;rintro m _ ⟨l,h,rfl,hg,rfl⟩;refine swD (λhl=>?_) λhl=>?_
 .refine⟨λo=>o=[.fz (.int a),.fz (.int b),.fz (.int ((h%m:Nat):Int)),.fz (.int m)],?_,?_⟩
  .rintro _ rfl;exact⟨h%m,Nat.mod_lt _ (by lia),h%m,m,rfl,(Nat.gcd_rec m h).symm.trans hg,rfl⟩
  .exact⟨hl,by rw[Int.natCast_emod];rfl⟩
 .have:m=0:=by lia
  subst this;rw[Nat.gcd_zero_left]at hg;rw[<- hg]at q;exact q
def yc:ST:=λts q=>∃a b:Int,ts=[.int a,.int b]/\0<b/\Bd b/\q (.fz (frR (Rat.divInt a b)))
def Yn(KY:gT 1 Ny xJ T_)(F:Fu rJ GF f fd):FT 2 f fd mq yc:=by
 refine F.okT XH λai A outer s H E hr nd=>?_;refine⟨_,(bC (bQ 2 (bH KY (bw (qv 0) (bw (qv 1) bA))))
  (bG (bM (cX (bw (bJ mH (qv 0) (qv 2)) (bw (bJ mH (qv 1) (qv 2)) bA)))))),?_⟩
 rintro _ R ⟨a,b,rfl,hb,hd,q⟩;have nb:b≠0:=by exact WU hb
 have g0:=mL (a:=a) nb;have g1:=Vk (a:=a) nb hd;refine⟨_,_,rfl,⟨by exact WU g0,g1⟩,⟨by exact WU g0,g1⟩,?_⟩;have l:=wV (t:=a) nb (c:=(Int.gcd a b:Nat)) (WU g0) (by lia) (XZ g0 hb);rw[<- j4 l nb]at q;exact q
def BZ:ST:=λts q=>∃r:Rat,ts=[frR r]/\q (.fz (.bl true))
def Oc(T:Tx D)(KY:gT 1 Ny xJ T_)(F:Fu ug vo f fd):FT 2 f fd lM BZ:=by
 refine F.okT Lz λai A outer s H E hr nd=>?_;refine⟨_,(bC (cB (QW.qt (jV (dW (dN (mF .tuple (qv 0) T.cW T.PJ boot_tuple))) (iM (b_ (mj hr.units) (bL cH T.dg WP (bw (qv 0) bA)) bx))))
  (bG (bM k_))
  bR)
  (bC (eV (ag1 (qv 0)) (bW (n:=99) 1)
  (bG (cB (QW.qt (jV (dW (dN (mF .int (qv 1) T.cW T.Vv boot_int))) (iM (dN (mF .bool (qv 1) T.cW T.Hr boot_bool)))))
  (bG (bM k_))
  bR)))
  (bG (bM (xQ (mC KJ (bI (qv 0) bx) bx) (zj (mC (go_eq hr.units) (bH KY (bw (bI (qv 0) bx) (bw (bI (qv 0) bx) bA))) bx))))))),?_⟩
 rintro _ R ⟨r,rfl,q⟩;have:=r.den_pos;refine⟨λo=>∃x,o=[.fz (frR r),x],?_,⟨_,rfl⟩⟩;rintro _ ⟨x,rfl⟩;refine⟨λo=>∃x,o=[.fz (frR r),x],?_,⟨_,rfl⟩⟩;rintro _ ⟨x,rfl⟩;refine swT (Zs (by lia)) ⟨_,_,rfl,?_⟩;rw[show Int.gcd r.num r.den=1 from r.reduced];exact q
def yQ:ST:=λts q=>∃(rs:List Rat)(m:Nat),ts=[.lst (rs.map frR),.int (m:Nat)]/\rs.length=m/\m<=1000/\q (.fz (.bl true))
def J2(T:Tx D)(vC:gT 2 ug lM BZ)(F:Fu qP oF f fd):FT 3 f fd jN yQ:=by
 refine F.okT JD λai A outer s H E hr nd=>?_;refine⟨_,(bC (cB (QW.qt (jV (dW (dN (mF .list (qv 0) T.cW T.tH boot_list))) (iM (b_ (mj hr.units) (bL cH T.dg WP (bw (qv 0) bA)) (qv 1)))))
  (bG (bM k_))
  bR)
  (bG (bM (bL (abr rfl) T.aeA boot_all (bw (fM (bF oF) sy sy ["_law_one"] (cR (qv 0)) (g_ (i:=0)) cJ (bH vC (bw (qv 0) bA))) bA))))),?_⟩
 rintro _ R ⟨rs,m,rfl,hl,hm,q⟩;refine swF (by rw[ak,hl,Zs rfl];rfl) ⟨by rw[ak,hl];exact aL hm (by decide),comp_map frR (λ_=>.bl true) rs (λr _ N M hN=>⟨r,rfl,hN⟩) ⟨rs.map λ_=>true,by rw[WS];rfl,?_⟩⟩;have e:((rs.map λ_=>true).all λb=>b)=true:=by simp
 rw[<- e]at q;exact q
def Yb(c:Nat):Bool:=decide (97<=c)&&decide (c<=122)
def ltL:List Nat:=(Str.ofString "abcdefghijklmnopqrstuvwxyz").cps.toList
def ahd:∀i:Fin 26,nth ltL i.val=some (97+i.val):=by decide +kernel
def aaf{i:Int}(h0:0<=i)(h1:i<26):ixT ltL i=some (97+i.toNat):=by
 obtain⟨k,rfl⟩:=Zxu h0;exact ahd ⟨k,by lia⟩
def Uz{n:Nat}(h:n<26):Yb (97+n)=true:=by
 unfold Yb;rw[Zs (show 97<=97+n by exact X1 _ _),Zs (show 97+n<=122 by lia)];rfl
def oh(x:Str):x.cps.toList.length=x.length:=Array.length_toList
def Ww(x y:Str):(x++y).cps.toList=x.cps.toList++y.cps.toList:=by
 show(x.cps++y.cps).toList=_;rw[Array.toList_append]
def acf(x y:Str):(x++y).length=x.length+y.length:=by
 show(x.cps++y.cps).size=_;rw[Array.size_append];rfl
def Y_{x:Str}{n:Nat} : (Fp x none (some (n:Int))).cps.toList=x.cps.toList.take n:=by
 unfold Fp;have hl:x.cps.toList.length=x.length:=Array.length_toList;show((x.cps.toList.drop 0).take (HT.sIx x.length x.length (some (n:Int))-0))=_;rw[HT.xZ,Zyy,Nat.sub_zero,<- hl];rw[List.take_eq_take_iff];lia
def Q5{x:Str}{n:Nat} : (Fp x (some (n:Int)) none).cps.toList=x.cps.toList.drop n:=by
 unfold Fp;have hl:x.cps.toList.length=x.length:=Array.length_toList;show((x.cps.toList.drop (HT.sIx x.length 0 (some (n:Int)))).take (x.length-HT.sIx x.length 0 (some (n:Int))))=_;rw[HT.xZ,<- hl];by_cases h:n<=x.cps.toList.length
 .rw[Nat.min_eq_left h];exact Zyx (by rw[US];exact aG _)
 .rw[Th (by lia:x.cps.toList.length<=n),Th (by lia),List.take_nil]
def WQ{α:Type}{ys:List α}{a b:Nat}(ab:a<=b)(h:b<=ys.length):gR ys (some (a:Int)) (some (b:Int))=(ys.drop a).take (b-a):=by
 unfold gR;rw[HT.xZ,HT.xZ,Nat.min_eq_left h,Nat.min_eq_left (aL ab h)]
def aeJ{x:Str}(h:x.cps.toList.all Yb=true)(lo:1<=x.length)(hi:x.length<=8):Wd x:=by
 unfold Wd WR;rw[oh,Zs lo,Zs hi];exact h
structure Nms(ns:Θ)(n:Nat):Prop where
 len:ns.length=n
 nd:ns.Nodup
 wd:∀x∈ns,Wd x
def Vu{R:Nat->Str->Prop}{n:Nat}{ns:Θ}(h:∀(i:Nat)x,ns[i]?=some x->R i x)(l:ns.length=n)(u:∀i j x,i<j->j<n->R i x->R j x->False):ns.Nodup:=by
 unfold List.Nodup;rw[List.pairwise_iff_getElem];intro i j hi hj ij e;exact u i j ns[i] ij (l ▸ hj) (h i _ (aj hi)) (by rw[e];exact h j _ (aj hj))
def KD{g:HG}{c:RT}{e:RE}{o:List OT}{q:List T->Prop}(R:Nat->Str->Prop)(n:Nat)(st:∀k,k<n->∀(N:T->Prop)(M:Prop),(∀x,R k x->N (.str x))->g (.int (k:Nat)) o λo'=>c o' λb=>sw b (e o' λy=>N (frz y)) M)(k:∀ns:Θ,ns.length=n->(∀(i:Nat)x,ns[i]?=some x->R i x)->q (ns.map T.str)):jK g c e o (rng 0 n) q:=by
 have go:∀(m j:Nat),j+m=n->∀(us:Θ),us.length=j->(∀(i:Nat)x,us[i]?=some x->R i x)->∀{q:List T->Prop},(∀ns:Θ,ns.length=n->(∀(i:Nat)x,ns[i]?=some x->R i x)->(∃vs,ns=us++vs/\q (vs.map T.str))\/¬∃vs,ns=us++vs)->jK g c e o ((List.range' j m).map λk:Nat=>.int ((0:Int)+k)) q:=by
  intro m
  induction m with
  |zero =>
   intro j ej us lu hu q hq;rcases hq us (by lia) hu with⟨vs,e,z⟩|z
   .have:vs=[]:=by simpa using e
    rw[this]at z;exact z
   .exact absurd ⟨[],(List.append_nil us).symm⟩ z
  |succ m ih =>
   intro j ej us lu hu q hq;rw[List.range'_succ,List.map_cons];refine Xc ?_;rw[Q3];refine st j (by lia) (λt=>jK g c e o ((List.range' (j+1) m).map λk:Nat=>.int ((0:Int)+k)) λus=>q (t::us)) (jK g c e o ((List.range' (j+1) m).map λk:Nat=>.int ((0:Int)+k)) q) λx hx=>?_;refine ih (j+1) (by lia) (us++[x]) (by simp[lu]) (λi y ey=>?_) λns ln hn=>?_
   .by_cases hi:i<us.length
    .rw[aF hi]at ey;exact hu i y ey
    .have hl:=(ao.mp ey).1;rw[aA,List.length_singleton]at hl;have:i=us.length:=by lia
     subst this;rw[aD (aG _),JU]at ey;cases ey;exact lu ▸ hx
   .by_cases z:∃vs,ns=us++[x]++vs
    .obtain⟨vs,e⟩:=z;refine .inl ⟨vs,e,?_⟩;rcases hq ns ln hn with⟨ws,e',q'⟩|z
     .rw[e,Wp]at e';have:=List.append_cancel_left e';rw[<- this]at q';exact q'
     .exact absurd ⟨x::vs,by rw[e,Wp];rfl⟩ z
    .exact .inr z
 have:=go n 0 (Q2 _) [] rfl (λi x z=>by cases z) (q:=q) λns ln hn=>.inl ⟨ns,rfl,k ns ln hn⟩;rw[<- List.range_eq_range']at this;exact this
def nm1(c:Nat)(i:Nat)(x:Str):Prop:=x.cps.toList=List.replicate (i+1) c
def nm2(b:List Nat)(at_:Nat)(x0 st:Int)(i:Nat)(x:Str):Prop:=x.cps.toList=b.take at_++(97+((x0+st*i)%26).toNat)::b.drop at_
def adz{b:List Nat}{at_:Nat}{x0 st:Int}{i j:Nat}{x:Str}(hs:st=1\/st=3\/st=5\/st=7\/st=9\/st=11)(ij:i<j)(hj:j<26)(h1:nm2 b at_ x0 st i x)(h2:nm2 b at_ x0 st j x):False:=by
 have e:=h1.symm.trans h2;have e:=List.append_cancel_left e;injection e with e _;rcases hs with rfl|rfl|rfl|rfl|rfl|rfl<;>omega
def afE{c i:Nat}{x:Str}(hc:Yb c=true)(hi:i<8)(h:nm1 c i x):Wd x:=by
 have l:=oh x;rw[h,aN]at l;refine aeJ ?_ (by lia) (by lia);rw[h,Zxt];intro d hd;rw[(List.mem_replicate.mp hd).2];exact hc
def ahf{b:List Nat}{at_:Nat}{x0 st:Int}{i:Nat}{x:Str}(hb:b.all Yb=true)(hl:b.length<=7)(h:nm2 b at_ x0 st i x):Wd x:=by
 have l:=oh x;rw[h,aA,List.length_cons,aY,US]at l;refine aeJ ?_ (by lia) (by omega);rw[h,Zxt];rw[Zxt]at hb;intro d hd;rcases Y1.mp hd with hd|hd
 .exact hb d (Zws hd)
 .rcases YU.mp hd with rfl|hd
  .exact Uz (by lia)
  .exact hb d (List.mem_of_mem_drop hd)
theorem K_:∀(ys:Θ)(acc:Array Nat),(ys.foldl (λacc p=>acc++(Str.ofString "").cps++p.cps) acc).toList=acc.toList++(ys.map λy=>y.cps.toList).flatten
 |[],acc=>by simp
 |y::ys,acc=>by
  have e0:(Str.ofString "").cps = #[]:=by decide +kernel
  rw[List.foldl_cons,K_ ys,e0,Array.append_empty,Array.toList_append,List.map_cons,List.flatten_cons,Wp]
def glue(ys:Θ):(Txt.join (Str.ofString "") ys).cps.toList=(ys.map λy=>y.cps.toList).flatten:=by
 show((ys.drop 1).foldl (λacc p=>acc++(Str.ofString "").cps++p.cps) (ys.headD Str.empty).cps).toList=_;rw[K_];cases ys with
 |nil=>rfl
 |cons y ys=>rfl
def afr{c d:RT}{x y z:RS}{E:DT}{o:List OT}(b:Bool)(h:∀q:Bool->Prop,q b->agM c d o q)(hq:sw b (x { E with nx:=z E } o) (y { E with nx:=z E } o)):d9 (acL (agM c d) x y) z E o:=h (λk=>sw k (x { E with nx:=z E } o) (y { E with nx:=z E } o)) hq
def Qm:ST:=λts q=>∃(c:Int)(n:Nat),ts=[.int c,.int (n:Nat)]/\n<=26/\∀ns:Θ,Nms ns n->q (.l1 (ns.map T.str))
def cZ{c:Int}{n k:Nat}(h:k<n:=by decide):ixT ((jQ c n).map T.int) (k:Nat)=some (.int (strm c k)):=by
 show nth ((jQ c n).map T.int) k=_;rw[qQ,aq,aq,VQ h];rfl
def aby(T:Tx D)(cF:gT 1 gF dY iI)(F:Fu G5 yw f fd):FT 2 f fd vY Qm:=by
 refine F.okT aaR λai A outer s H E hr nd=>?_;refine⟨_,(bC (bQ 2 j7)
  (bC (bQ 3 (bH cF (bw (qv 0) (bw bx bA))))
  (bC (cB (QW.qt (ZP (b_ (go_eq hr.units) (bJ cj (bI (qv 3) bx) bx) bx) (WT (b_ HD (qv 1) bx))))
  (bG (bM (fM (bF yw) sG sG ["_law_k"] (dG T.fj (bw (qv 1) bA)) (g_ (i:=0)) cJ (bJ dU (bI (qv 3) (bJ cj (bI (qv 4) bx) bx)) (bJ cD (qv 0) bx)))))
  bR)
  (bC (bQ 4 (adC j7 (bw (fM (bF yw) sG sG ["_law_x"] (cR (jT (qv 3) (gZ bx) (gZ (bJ cD bx (bJ cj (bI (qv 3) bx) bx))))) (g_ (i:=0)) cJ (bI (qv 3) (bJ cj (qv 0) bx))) bA)))
  (bC (bQ 5 (bJ cj (bI (qv 3) bx) bx))
  (bC (bQ 6 (bI (dz (bw bx (bw bx (bw bx (bw bx (bw bx (bw bx bA))))))) (bJ cj (bI (qv 3) bx) bx)))
  (bG (bM (fM (bF yw) sG sG ["_law_k"] (dG T.fj (bw (qv 1) bA)) (g_ (i:=0)) cJ (bJ cD (bJ cD (jT (qv 5) Cv (gZ (qv 6))) (bI (qv 3) (bJ cj (bJ cD (bI (qv 4) bx) (bJ dU (qv 7) (qv 0))) bx))) (jT (qv 5) (gZ (qv 6)) Cv))))))))))),?_⟩
 rintro _ R ⟨c,n,rfl,hn,q⟩;refine⟨c,11,rfl,by decide,?_⟩;have s0:=lF c 0;have s1:=lF c 1;have lL:(Str.ofString "abcdefghijklmnopqrstuvwxyz").length<=sizeLine:=aL (show _<=1000 by decide +kernel) (by decide);have rl:(rng 0 n).length<=sizeLine:=by rw[rng,ak,WJ];exact aL hn (by decide)
 dsimp only;refine afr (decide (strm c 0%3=1)&&decide ((n:Int)<=8)) (λq hq=>?_) ?_
 .refine⟨_,cZ (k:=0),by decide,?_⟩;refine swD (λh=>?_) λh=>?_
  .rw[Zs h,Bool.true_and]at hq;exact hq
  .rw[Zp h,Bool.false_and]at hq;exact hq
 .refine sw2 (λhb=>?_) λhb=>?_
  .simp only[JY,decide_eq_true_eq]at hb;refine⟨⟨by lia,by lia⟩,rl,KD (nm1 (97+(strm c 1%26).toNat)) n (λk hk N M hN=>?_) λns ln eK=>q ns ⟨ln,Vu eK ln λi j x ij hj h1 h2=>?_,λx hx=>?_⟩⟩
   .refine⟨_,cZ (k:=1),by decide,lL,_,aaf (Z3 _ (by decide)) (YY _ (by decide)),_,rfl,by lia,by lia,λz hz=>hN z ?_⟩;rw[show((k:Int)+1).toNat=k+1 by lia]at hz;exact hz
   .have:=ZH List.length (h1.symm.trans h2);rw[aN,aN]at this;lia
   .obtain⟨i,hi⟩:=aV hx;have li:=(ao.mp hi).1;exact afE (Uz (by lia)) (by lia) (eK i x hi)
  .obtain⟨m,em,hm⟩ : ∃m:Nat,strm c 1%8=m/\m<=7:=⟨(strm c 1%8).toNat,by lia,by lia⟩;have ec:gR ((jQ c 11).map L2.T.int) (some 2) (some (2+strm c 1%8))=(((jQ c 11).drop 2).take m).map L2.T.int:=by
    rw[em,Am];have:=WQ (ys:=jQ c 11) (a:=2) (b:=2+m) (X1 _ _) (by rw[ak,WJ];lia);rw[show 2+m-2=m by exact Tk _ _]at this;exact ZH (List.map L2.T.int) this
   have ml:(((jQ c 11).drop 2).take m).length=m:=by rw[aY,US,ak,WJ];lia
   refine⟨_,cZ (k:=1),by decide,?_⟩;dsimp only[frz];show(gR ((jQ c 11).map L2.T.int) (some 2) (some (2+strm c 1%8))).length<=sizeLine/\_;rw[ec];have c26:∀x∈((jQ c 11).drop 2).take m,0<=x:=λx hx=>by
    obtain⟨k,_,rfl⟩:=YV.mp (List.mem_of_mem_drop (Zws hx));exact(lF c k).1
   generalize((jQ c 11).drop 2).take m=us at ml c26 ⊢;have e0:(Str.ofString "").length=0:=by decide +kernel
   refine⟨by rw[ak,ml];exact aL hm (by decide),comp_map L2.T.int (λx=>.str ⟨#[97+(x%26).toNat]⟩) us (λx hx N M hN=>⟨by decide,lL,_,aaf (Z3 _ (by decide)) (YY _ (by decide)),hN⟩) ⟨us.map λx=>⟨#[97+(x%26).toNat]⟩,by rw[WS];rfl,?_,?_⟩⟩
   .rw[e0,Nat.mul_zero,Nat.add_zero,WS,show((λx:Str=>x.length) ∘ λx:Int=>(⟨#[97+(x%26).toNat]⟩ : Str))=λ_=>1 from rfl,List.map_const',List.sum_replicate_nat];lia
   have bc:(Txt.join (Str.ofString "") (us.map λx=>(⟨#[97+(x%26).toNat]⟩ : Str))).cps.toList=us.map λx=>97+(x%26).toNat:=by
    rw[glue,WS]
    clear ml c26 ec
    induction us with
    |nil=>rfl
    |cons x us ih=>rw[List.map_cons,List.flatten_cons,ih];rfl
   have bl:(Txt.join (Str.ofString "") (us.map λx=>(⟨#[97+(x%26).toNat]⟩ : Str))).length<=7:=by rw[<- oh,bc,ak];exact aL (WG ml) hm
   have ba:(us.map λx=>97+(x%26).toNat).all Yb=true:=by
    rw[Zxt];intro d hd;obtain⟨x,hx,rfl⟩:=YV.mp hd;exact Uz (by lia)
   rw[<- bc]at ba;generalize Txt.join (Str.ofString "") (us.map λx=>(⟨#[97+(x%26).toNat]⟩ : Str))=st at bl ba ⊢
   clear bc
   have s9:=lF c 9;have i4:=lF c 10;obtain⟨ap,eap,p6⟩ : ∃ap:Nat,strm c 9%8=ap/\ap<=7:=⟨(strm c 9%8).toNat,by lia,by lia⟩;obtain⟨sv,es,hs⟩ : ∃sv:Int,ixT [L2.T.int 1,L2.T.int 3,L2.T.int 5,L2.T.int 7,L2.T.int 9,L2.T.int 11] (strm c 10%6)=some (.int sv)/\(sv=1\/sv=3\/sv=5\/sv=7\/sv=9\/sv=11):=by
    obtain e|e|e|e|e|e:strm c 10%6=0\/strm c 10%6=1\/strm c 10%6=2\/strm c 10%6=3\/strm c 10%6=4\/strm c 10%6=5:=by lia
    .exact⟨1,by rw[e];rfl,by decide⟩
    .exact⟨3,by rw[e];rfl,by decide⟩
    .exact⟨5,by rw[e];rfl,by decide⟩
    .exact⟨7,by rw[e];rfl,by decide⟩
    .exact⟨9,by rw[e];rfl,by decide⟩
    .exact⟨11,by rw[e];rfl,by decide⟩
   have z7:(16:Nat)<=sizeLine:=by decide
   refine⟨_,cZ (k:=9),by decide,?_⟩;dsimp only[frz];rw[eap];refine⟨_,cZ (k:=10),by decide,_,es,⟨by lia,by lia⟩,rl,KD (nm2 st.cps.toList ap (strm c 0) sv) n (λk hk N M hN=>?_) λns ln eK=>q ns ⟨ln,Vu eK ln λi j x ij hj h1 h2=>adz hs ij (aR hj hn) h1 h2,λx hx=>?_⟩⟩
   .have t1:(Fp st none (some (ap:Int))).length<=7:=by rw[<- oh,Y_,aY,oh];lia
    have t2:(Fp st (some (ap:Int)) none).length<=7:=by rw[<- oh,Q5,US,oh];exact aL (Nat.sub_le _ _) bl
    have t3:∀d:Nat,({ cps:=#[d] } : Str).length=1:=λ_=>rfl;refine⟨by exact aL bl (by decide),_,cZ (k:=0),⟨iB (by lia),iB (by lia)⟩,by decide,lL,_,aaf (Z3 _ (by decide)) (YY _ (by decide)),by rw[t3];lia,by exact aL bl (by decide),by rw[acf,t3];lia,hN _ ?_⟩;unfold nm2;rw[Ww,Ww,Y_,Q5,Wp];rfl
   .obtain⟨i,hi⟩:=aV hx;exact ahf ba (by rw[oh];exact bl) (eK i x hi)
def ZQ{α:Type}(l:List α)(h:α->T){i:Int}(h0:0<=i)(h1:i<l.length):∃a∈l,ixT (l.map h) i=some (h a):=by
 obtain⟨k,rfl⟩:=Zxu h0;have hk:k<l.length:=by lia
 refine⟨l[k],aU hk,?_⟩;show nth (l.map h) k=_;rw[qQ,aq,aj hk];rfl
def div_pos{a b:Int}(hb:0<b):(Rat.divInt a b).den<=b.toNat/\(Rat.divInt a b).num.natAbs<=a.natAbs:=by
 have l:=wV (t:=a) (b:=b) (c:=(Int.gcd a b:Nat)) (WU hb) (by have:=mL (a:=a) (b:=b) (WU hb);exact WU this) (by lia) (XZ (mL (WU hb)) hb);have e:=j4 l (WU hb);injection e with e;injection e with e1 e2;injection e2 with e2 _;injection e1 with e1;injection e2 with e2;have h1:=l.lx;have h2:=l.ly;have h3:=l.pos;have e1:a.fdiv ((Int.gcd a b:Nat):Int)=(Rat.divInt a b).num:=e1;have e2:b.fdiv ((Int.gcd a b:Nat):Int)=((Rat.divInt a b).den:Nat):=e2;rw[e1]at h1;rw[e2]at h2 h3;omega
def Uo{a b:Int}(ha:0<=a)(h:a<b):0<=Rat.divInt a b/\Rat.divInt a b<1:=by
 have hb:0<b:=by exact Int.lt_of_le_of_lt ha h
 refine⟨Zzq ha (XY hb),?_⟩;have e:Rat.divInt a b=(a:Rat)/(b:Rat):=TW a b;rw[e];have cx:(0:Rat)<(b:Rat):=by exact_mod_cast hb
 rw[Rat.div_lt_iff cx,Rat.one_mul]
 exact_mod_cast h
structure Shr(s:Rat):Prop where
 lo:0<=s
 hi:s<1
 den:s.den<=100
def Q8:ST:=λts q=>∃c:Int,ts=[.int c]/\∀s:Rat,Shr s->q (.fz (frR s))
def abO(T:Tx D)(cF:gT 1 gF dY iI)(jo:gT 2 rJ mq yc)(F:Fu Jb Lp f fd):FT 3 f fd vM Q8:=by
 refine F.okT aa4 λai A outer s H E hr nd=>?_;refine⟨_,(bC (bQ 1 (bH cF (bw (qv 0) (bw bx bA))))
  (bC (bQ 2 (bJ cD bx (bJ cj (bI (qv 1) bx) (bI (dz (bw bx (bw bx (bw bx (bw bx bA))))) (bJ cj (bI (qv 1) bx) bx)))))
  (bG (bM (bH jo (bw (bJ cj (bI (qv 1) bx) (qv 2)) (bw (qv 2) bA))))))),?_⟩
 rintro _ R ⟨c,rfl,q⟩;have s0:=lF c 0;have s1:=lF c 1;have s2:=lF c 2;refine⟨c,3,rfl,by decide,_,cZ (k:=0),_,cZ (k:=1),by decide,?_⟩;obtain⟨d,hd,ed⟩:=ZQ [4,6,10,100] L2.T.int (i:=strm c 1%4) (Z3 _ (by decide)) (by show strm c 1%4<4;exact YY _ (by decide));have d0:0<d/\d<=100:=by simp at hd;lia
 refine⟨_,ed,d0.1,?_⟩;have b0:0<1+strm c 0%d/\1+strm c 0%d<=100:=by
  have:=Z3 (strm c 0) (show d≠0 by lia);have:=YY (strm c 0) d0.1;lia
 refine⟨_,cZ (k:=2),b0.1,_,_,rfl,b0.1,iB (by omega),q _ ?_⟩;generalize 1+strm c 0%d=b at b0 ⊢;have a0:=Z3 (strm c 2) (show b≠0 by lia);have a1:=YY (strm c 2) b0.1;obtain⟨x,y⟩:=Uo a0 a1;exact⟨x,y,by have:=(div_pos (a:=strm c 2%b) b0.1).1;lia⟩
structure Pay(p:Rat):Prop where
 num:p.num.natAbs<=10^30
 den:p.den<=1000
def aav:ST:=λts q=>∃c x y:Int,ts=[.int c,.int x,.int y]/\(0<=x/\x<2000000000)/\(0<=y/\y<2000000000)/\∀p:Rat,Pay p->q (.fz (frR p))
def ae3(T:Tx D)(jo:gT 2 rJ mq yc)(F:Fu Um ZF f fd):FT 3 f fd Iv aav:=by
 refine F.okT ag3 λai A outer s H E hr nd=>?_;refine⟨_,(bC (cB (b_ uz (bJ cj (qv 1) bx) bx)
  (bG (bM (cX (bw (bJ Dv (bJ cj (qv 2) bx) bx) (bw bx bA)))))
  bR)
  (bC (cB (b_ uz (bJ cj (qv 1) bx) bx)
  (bG (bM (bH jo (bw (bJ Dv (bJ cj (qv 2) bx) bx) (bw (bJ cD bx (bJ cj (bJ mH (qv 1) bx) bx)) bA)))))
  bR)
  (bC (cB (b_ (go_eq hr.units) (bJ cj (qv 1) bx) bx)
  (bG (bM (cX (bw (bJ Dv (bJ cj (qv 0) bx) bx) (bw bx bA)))))
  bR)
  (bG (bM (bH jo (bw (bJ Dv (bJ cj (bJ cD (bJ FZ (qv 0) bx) (qv 2)) (bJ cD (bJ dU bx (bJ Gr bx bx)) bx)) (bJ Gr bx bx)) (bw (bJ cD bx (bJ cj (bJ mH (qv 1) bx) bx)) bA)))))))),?_⟩
 rintro _ R ⟨c,x,y,rfl,hx,hy,q⟩;have b30:Bd (10^30):=Y3 (aG _) (by decide +kernel);have lo:∀a b:Int,0<b->a.natAbs<=10^30->b<=1000->R (.fz (frR (Rat.divInt a b))):=λa b h0 h1 h2=>by
  obtain⟨x,y⟩:=div_pos (a:=a) h0;exact q _ ⟨aL y h1,by lia⟩
 have one:∀a:Int,a.natAbs<=10^30->R (.fz (.tup [.int a,.int 1])):=λa h=>q (a:Rat) ⟨h,show(1:Nat)<=1000 by decide⟩;have d8:x.fdiv 8=x/8:=Zyw _ (by decide);refine⟨by decide,swD (λh=>⟨by decide,one _ (by lia)⟩) λh=>⟨by decide,swD (λh=>⟨by decide,⟨by decide,iB (by decide)⟩,by decide,?_⟩) λh=>⟨by decide,swD (λh=>⟨by decide,one _ (by lia)⟩) λh=>?_⟩⟩⟩
 .exact⟨_,_,rfl,by lia,iB (by lia),lo _ _ (by lia) (by lia) (by lia)⟩
 .refine⟨.inr (by constructor<;>decide),⟨by decide,by decide,by decide⟩,⟨iB (by decide),b30⟩,by decide,⟨by decide,by decide,by decide⟩,⟨by decide,iB (by decide)⟩,by decide,?_⟩;exact⟨_,_,rfl,by lia,iB (by lia),lo _ _ (by lia) (by
   have e:(10:Int)^Int.toNat 30=10^30:=rfl;rw[e];lia) (by lia)⟩
structure LD where
 sort:Nat
 pay:Rat
 prs:List (Nat×Rat)
abbrev ldT(d:LD):T:=.tup [.int (d.sort:Nat),frR d.pay,.lst (d.prs.map nwT)]
structure LDk(m:Nat)(d:LD):Prop where
 sort:d.sort<4
 pay:Pay d.pay
 few:d.prs.length<=4
 lt:∀p∈d.prs,p.1<m
 nn:∀p∈d.prs,0<=p.2
 one:B_ (d.prs.map (·.2))=1
 dn:∃q:Nat,0<q/\q<=4000/\∀p∈d.prs,p.2.den ∣ q
 s0:d.sort=0->∃a,d.prs=[(a,1)]
 s1:d.sort=1->∃a b x,d.prs=[(a,x),(b,1-x)]
 s2:d.sort=2->∃rs:List Nat,d.prs=rs.map λr=>(r,mkRat 1 rs.length)
def ac7{α:Type}(l:List α){n:Nat} : gR l none (some (n:Int))=l.take n:=by
 unfold gR;show(l.drop 0).take (HT.sIx l.length l.length (some (n:Int))-0)=_;rw[HT.xZ,Zyy,Nat.sub_zero];rw[List.take_eq_take_iff];lia
def NT{a b:Int}(hb:0<b):(Rat.divInt a b).den ∣ b.toNat:=by
 have l:=wV (t:=a) (b:=b) (c:=(Int.gcd a b:Nat)) (WU hb) (by have:=mL (a:=a) (b:=b) (WU hb);exact WU this) (by lia) (XZ (mL (WU hb)) hb);have e:=j4 l (WU hb);injection e with e;injection e with _ e2;injection e2 with e2 _;injection e2 with e2;have e2:b.fdiv ((Int.gcd a b:Nat):Int)=((Rat.divInt a b).den:Nat):=e2;have d:((Int.gcd a b:Nat):Int) ∣ b:=JS a b;rw[Zww d]at e2;obtain⟨x,hx⟩:=d;have g0:=mL (a:=a) (b:=b) (WU hb);rw[Int.ediv_eq_of_eq_mul_right (WU g0) hx]at e2;exact Int.natCast_dvd_natCast.mp ⟨(Int.gcd a b:Nat),by rw[<- e2,Zwu (XY hb),Int.mul_comm];exact hx⟩
theorem Wo{S:Int}(hS:S≠0):∀ws:List Int,B_ (ws.map λw=>Rat.divInt w S)=Rat.divInt ws.sum S
 |[]=>by show(0:Rat)=Rat.divInt 0 S;rw[Zzv]
 |w::ws=>by
  show Rat.divInt w S+B_ (ws.map λw=>Rat.divInt w S)=Rat.divInt (w+ws.sum) S;rw[Wo hS ws,Qr _ _ hS hS];refine(JJ (nM hS hS) hS).mpr ?_
  grind
theorem Rv{n:Nat}(h:0<n):∀k:Nat,B_ (List.replicate k (mkRat 1 n))=mkRat k n
 |0=>by show(0:Rat)=mkRat 0 n;rw[Rat.zero_mkRat]
 |k+1=>by
  rw[List.replicate_succ];show mkRat 1 n+B_ (List.replicate k (mkRat 1 n))=_;rw[Rv h k,Rat.mkRat_add_mkRat _ _ (VW h) (VW h),Rat.mkRat_eq_iff (Nat.mul_ne_zero (VW h) (VW h)) (VW h)]
  push_cast
  grind
def ac4{n:Nat}(h:0<n):mkRat n n=1:=by
 rw[show(1:Rat)=mkRat 1 1 from rfl,Rat.mkRat_eq_iff (VW h) (Nat.succ_ne_zero _)];lia
def one_sub{a b:Int}(hb:b≠0):1-Rat.divInt a b=Rat.divInt (b-a) b:=by
 rw[show(1:Rat)=Rat.divInt 1 1 from rfl,Rat.divInt_sub_divInt _ _ (by decide) hb,UH,Tu]
def Rq(x:Rat):1-x=⟨(x.den:Int)-x.num,x.den,x.den_nz,by
  have:=x.reduced;show Nat.Coprime ((x.den:Int)-x.num).natAbs x.den;have h:Int.gcd ((x.den:Int)-x.num) (x.den:Int)=1:=by
   rw[Int.gcd_self_sub_left];exact this
  exact h⟩:=by
 rw[Rat.mk_eq_divInt,<- one_sub (nF x),rd]
def Zd(x:Rat):frR (1-x)=.tup [.int ((x.den:Int)-x.num),.int x.den]:=by rw[Rq]
def Yc(x:Rat):(1-x).den=x.den:=by rw[Rq]
def LDk.sure{m a:Nat}{p:Rat}(ha:a<m)(hp:Pay p):LDk m ⟨0,p,[(a,1)]⟩ :=
 ⟨Nat.zero_lt_succ _,hp,U2 rfl,by simp[ha],by simp;decide,by simp[B_];exact QQ 1,⟨1,by decide,by decide,by simp⟩,λ_=>⟨_,rfl⟩,(λz=>by cases z),(λz=>by cases z)⟩
def LDk.toss{m a b q:Nat}{p x:Rat}(ha:a<m)(hb:b<m)(hp:Pay p)(x0:0<=x)(x1:0<=1-x)(q0:0<q)(q1:q<=4000)(hd:x.den ∣ q):LDk m ⟨1,p,[(a,x),(b,1-x)]⟩ :=
 ⟨U2 rfl,hp,U2 rfl,by simp[ha,hb],by simp[x0,x1],by simp[B_];grind,⟨q,q0,q1,by simp[hd,Yc]⟩,(λz=>by cases z),λ_=>⟨_,_,_,rfl⟩,(λz=>by cases z)⟩
def agI{n:Nat}(h:0<n):(mkRat 1 n).den=n:=by
 have e:=Uu h;injection e with e;injection e with _ e;injection e with e _;injection e with e;lia
def LDk.even{m:Nat}{p:Rat}{rs:List Nat}(h0:0<rs.length)(h4:rs.length<=4)(hr:∀r∈rs,r<m)(hp:Pay p):LDk m ⟨2,p,rs.map λr=>(r,mkRat 1 rs.length)⟩:=by
 have nn:(0:Rat)<=mkRat 1 rs.length:=by rw[<- Rat.divInt_ofNat];exact Zzq (by decide) (X9 _)
 refine⟨U2 rfl,hp,by rw[ak];exact h4,λx hx=>?_,λx hx=>?_,?_,⟨rs.length,h0,by exact aL h4 (by decide),λx hx=>?_⟩,(λz=>by cases z),(λz=>by cases z),λ_=>⟨rs,rfl⟩⟩
 .obtain⟨r,h,rfl⟩:=YV.mp hx;exact hr r h
 .obtain⟨r,h,rfl⟩:=YV.mp hx;exact nn
 .rw[WS,show((λx:Nat×Rat=>x.2) ∘ λr=>(r,mkRat 1 rs.length))=λ_=>mkRat 1 rs.length from rfl,List.map_const',Rv h0,ac4 h0]
 .obtain⟨r,h,rfl⟩:=YV.mp hx;rw[agI h0];exact Nat.dvd_refl _
def LDk.mix{m:Nat}{p:Rat}{rs:List Nat}{ws:List Int}(hl:ws.length<=4)(hr:∀r∈rs,r<m)(hw:∀w∈ws,0<=w)(le:ws.length<=rs.length)(s0:0<ws.sum)(s1:ws.sum<=4000)(hp:Pay p):LDk m ⟨3,p,(rs.zip ws).map λx=>(x.1,Rat.divInt x.2 ws.sum)⟩:=by
 have m2:(rs.zip ws).map (λx=>x.2)=ws:=List.map_snd_zip le;refine⟨U2 rfl,hp,by rw[ak,VV];lia,λx hx=>?_,λx hx=>?_,?_,⟨ws.sum.toNat,by lia,by lia,λx hx=>?_⟩,(λz=>by cases z),(λz=>by cases z),(λz=>by cases z)⟩
 .obtain⟨r,h,rfl⟩:=YV.mp hx;exact hr _ (UX h).1
 .obtain⟨r,h,rfl⟩:=YV.mp hx;exact Zzq (hw _ (UX h).2) (XY s0)
 .rw[WS,show((λx:Nat×Rat=>x.2) ∘ λx:Nat×Int=>(x.1,Rat.divInt x.2 ws.sum))=(λw=>Rat.divInt w ws.sum) ∘ λx:Nat×Int=>x.2 from rfl,<- WS,m2,Wo (WU s0)];have e:=one_sub (a:=ws.sum) (b:=ws.sum) (WU s0);rw[Int.sub_self,Zzv]at e
  grind
 .obtain⟨r,h,rfl⟩:=YV.mp hx;exact NT s0
theorem aaj:∀{ws:List Int},(∀w∈ws,0<=w)->0<=ws.sum
 |[],_=>by decide
 |w::ws,h=>by
  have:=h w (aO ..);have:=aaj (ws:=ws) λx hx=>h x (aJ _ hx);rw[List.sum_cons];lia
theorem YZ{b:Int} : ∀{ws:List Int},(∀w∈ws,w<=b)->ws.sum<=b*ws.length
 |[],_=>by simp
 |w::ws,h=>by
  have:=h w (aO ..);have:=YZ (ws:=ws) λx hx=>h x (aJ _ hx);rw[List.sum_cons,List.length_cons];have:b*((ws.length+1:Nat):Int)=b*ws.length+b:=by grind
  lia
def Wu:ST:=λts q=>∃(c:Int)(m:Nat),ts=[.int c,.int (m:Nat)]/\0<m/\m<=1000/\∀(r:Nat)(d:LD),r<m->LDk m d->q (.fz (.tup [.int (r:Nat),ldT d]))
def ab3(T:Tx D)(cF:gT 1 gF dY iI)(jo:gT 2 rJ mq yc)(ZC:gT 3 Um Iv aav)(F:Fu Nh zL f fd):FT 4 f fd Bh Wu:=by
 refine F.okT Nq λai A outer s H E hr nd=>?_;refine⟨_,(bC (bQ 2 (bH cF (bw (qv 0) (bw bx bA))))
  (bC (bQ 3 (fM (bF zL) rR rR ["_law_x"] (cR (jT (qv 2) (gZ bx) (gZ bx))) (g_ (i:=0)) cJ (bJ cj (qv 0) (qv 2))))
  (bC (bQ 4 (bJ cj (bI (qv 2) bx) bx))
  (bC (bQ 5 (QEB.out (Ws (gH (z8 (gH (CZ (bI (qv 3) bx)) (gH (z8 (gH WK (gH WK ud))) ud))) ud))))
  (bC (cB (b_ (go_eq hr.units) (qv 4) bx)
  (bC (bQ 6 (bJ cD bx (bJ cj (bI (qv 2) bx) bx)))
  (bC (bQ 7 (bH jo (bw (bJ cj (bI (qv 2) bx) (bJ cD (qv 6) bx)) (bw (qv 6) bA))))
  (bG (bQ 5 (QEB.out (Ws (gH (z8 (gH (CZ (bI (qv 3) bx)) (gH (akD 7) ud))) (gH (z8 (gH (CZ (bI (qv 3) bx)) (gH (z8 (gH (afn Dv (CZ (bI (qv 7) bx)) (CZ (bI (qv 7) bx))) (gH (CZ (bI (qv 7) bx)) ud))) ud))) ud))))))))
  bR)
  (bC (cB (b_ (go_eq hr.units) (qv 4) bx)
  (bC (bQ 3 (jT (qv 3) Cv (gZ (bJ cD bx (bJ cj (bI (qv 2) bx) bx)))))
  (bG (sS (bF zL) rR rR ["_law_room"] (cR (qv 3)) (g_ (i:=0)) cJ (cX (bw (qv 0) (bw (cX (bw bx (bw (bL cH T.dg WP (bw (qv 4) bA)) bA))) bA))) (jC (i:=5) Nq.nd rfl (Or.inl rfl)))))
  bR)
  (bC (cB (b_ (go_eq hr.units) (qv 4) bx)
  (bC (jL 8 (fM (bF zL) rR rR ["_law_x"] (cR (jT (qv 2) (gZ bx) (gZ (bJ cD bx (bJ cj (bI (qv 2) bx) bx))))) (g_ (i:=0)) cJ (bJ cj (qv 0) (bI (dz (bw bx (bw bx (bw bx (bw bx bA))))) (bJ cj (bI (qv 3) bx) bx)))))
  (bC (wO 8 (bJ cD (nG 8 (zu bx)) bx) (zu bx))
  (bG (CP 8 (sS (bF zL) rR rR ["_law_k"] (dG T.fj (bw (bL cH T.dg WP (bw (qv 8) bA)) bA)) (g_ (i:=0)) cJ (cX (bw (bI (qv 4) (qv 0)) (bw (bH jo (bw (bI (qv 9) (qv 0)) (bw (bL (aa5 rfl) T.aeL boot_sum (bw (qv 9) bA)) bA))) bA))) (jC (i:=5) Nq.nd rfl (Or.inl rfl)))))))
  bR)
  (bG (bM (cX (bw (bJ cj (bI (qv 2) bx) (qv 1)) (bw (cX (bw (qv 4) (bw (bH ZC (bw (qv 0) (bw (bI (qv 2) bx) (bw (bI (qv 2) bx) bA)))) (bw (qv 5) bA)))) bA)))))))))))),?_⟩
 rintro _ R ⟨c,m,rfl,m0,m1,q⟩;have mz:(0:Int)<(m:Nat):=by lia
 have sl:∀k,0<=strm c k/\strm c k<2000000000:=lF c;obtain⟨rm,i6,rme⟩ : ∃rm:Nat->Nat,(∀k,rm k<m)/\∀k,strm c k%(m:Nat)=(rm k:Nat):=⟨λk=>(strm c k%(m:Nat)).toNat,λk=>by
  have:=YY (strm c k) mz;have:=Z3 (strm c k) (show((m:Nat):Int)≠0 by exact WU mz);show(strm c k%(m:Nat)).toNat<m;lia,λk=>by
  have:=Z3 (strm c k) (show((m:Nat):Int)≠0 by exact WU mz);show _=((strm c k%(m:Nat)).toNat:Int);lia⟩
 obtain⟨so,eso,hso⟩ : ∃so:Nat,strm c 6%4=(so:Nat)/\so<4:=⟨(strm c 6%4).toNat,by have:=sl 6;lia,by have:=sl 6;lia⟩;refine sq7 (λo=>∃(x3 x6 x7 x8:OT)(prs:List (Nat×Rat)),o=[.fz (.int c),.fz (.int (m:Nat)),.fz (.lst ((jQ c 14).map L2.T.int)),x3,.fz (.int (so:Nat)),.fz (.lst (prs.map nwT)),x6,x7,x8]/\∀p,Pay p->LDk m ⟨so,p,prs⟩) ?_ λY go=>?_
 .rintro _ ⟨x3,x6,x7,x8,prs,rfl,hk⟩;refine⟨_,cZ (k:=13),mz,_,cZ (k:=0),_,cZ (k:=1),c,_,_,rfl,sl 0,sl 1,λp hp=>?_⟩;have:=q (rm 13) ⟨so,p,prs⟩ (i6 13) (hk p hp);rw[<- rme]at this;exact this
 .refine⟨c,14,rfl,by decide,?_⟩;have ec:gR ((jQ c 14).map L2.T.int) (some 2) (some 6)=[2,3,4,5].map (λk=>L2.T.int (strm c k)):=rfl;show(gR ((jQ c 14).map L2.T.int) (some 2) (some 6)).length<=sizeLine/\jK _ _ _ _ (gR ((jQ c 14).map L2.T.int) (some 2) (some 6)) _;rw[ec];refine⟨show 4<=sizeLine by decide,comp_map (λk=>L2.T.int (strm c k)) (λk=>.int (rm k:Nat)) [2,3,4,5] (λk _ N M hN=>⟨mz,by rw[rme];exact hN⟩) ⟨_,cZ (k:=6),by decide,?_⟩⟩;dsimp only[frz];rw[eso];refine⟨_,rfl,?_⟩;obtain rfl|rfl|rfl|rfl:so=0\/so=1\/so=2\/so=3:=by lia
  .exact go _ ⟨_,_,_,_,[(rm 2,1)],rfl,λp hp=>.sure (i6 2) hp⟩
  .have x8:=sl 8;have x9:=sl 9;refine⟨_,cZ (k:=8),by decide,_,cZ (k:=9),by lia,_,_,rfl,by lia,iB (by lia),_,rfl,_,rfl,?_⟩;obtain⟨b,eb,b0,b1⟩ : ∃b:Int,1+strm c 8%6=b/\0<b/\b<=6:=⟨_,rfl,by lia,by lia⟩;rw[eb];have a0:=Z3 (strm c 9) (show b+1≠0 by lia);have a1:=YY (strm c 9) (show 0<b+1 by exact Int.lt_trans b0 (Int.lt_succ _));generalize strm c 9%(b+1)=a at a0 a1 ⊢;have nn:0<=Rat.divInt a b:=Zzq a0 (XY b0);have l1:0<=1-Rat.divInt a b:=by rw[one_sub (WU b0)];exact Zzq (by omega) (XY b0)
   have dd:=NT (a:=a) b0;generalize Rat.divInt a b=x at nn l1 dd ⊢;refine go _ ⟨.fz (.lst ([2,3,4,5].map λk=>L2.T.int (rm k:Nat))),.fz (.int b),.fz (frR x),.und,[(rm 2,x),(rm 3,1-x)],?_,λp hp=>.toss (i6 2) (i6 3) hp nn l1 (show 0<b.toNat by lia) (by lia) dd⟩;rw[show[(rm 2,x),(rm 3,1-x)].map nwT=[.tup [.int (rm 2:Nat),frR x],.tup [.int (rm 3:Nat),frR (1-x)]]from rfl,Zd]
   rfl
  .have x7:=sl 7;obtain⟨n,en,n0,n4⟩ : ∃n:Nat,1+strm c 7%4=(n:Nat)/\0<n/\n<=4:=⟨(1+strm c 7%4).toNat,by lia,by lia,by lia⟩;refine⟨_,cZ (k:=7),by decide,?_⟩;show(gR ([2,3,4,5].map λk=>L2.T.int (rm k:Nat)) none (some (1+strm c 7%4))).length<=sizeLine/\jK _ _ _ _ (gR ([2,3,4,5].map λk=>L2.T.int (rm k:Nat)) none (some (1+strm c 7%4))) _;have ec2:gR ([2,3,4,5].map λk=>L2.T.int (rm k:Nat)) none (some (1+strm c 7%4))=(([2,3,4,5].map rm).take n).map λr:Nat=>L2.T.int (r:Nat):=by
    rw[en,ac7,List.map_take,WS]
    rfl
   have rl:(([2,3,4,5].map rm).take n).length=n:=by rw[aY];show min n 4=n;lia
   have rlt:∀r∈([2,3,4,5].map rm).take n,r<m:=λr hr=>by
    obtain⟨k,_,rfl⟩:=YV.mp (Zws hr);exact i6 k
   rw[ec2];generalize([2,3,4,5].map rm).take n=rs at rl rlt ⊢;have r0:0<rs.length:=by lia
   have e2:(rs.map λr=>(r,mkRat 1 rs.length)).map nwT=rs.map λr=>nwT (r,mkRat 1 rs.length):=by rw[WS];rfl
   refine⟨by rw[ak];exact aL (show _<=4 by exact aL (WG rl) n4) (by decide),comp_map (λr:Nat=>L2.T.int (r:Nat)) (λr=>nwT (r,mkRat 1 rs.length)) rs (λr hr N M hN=>?_) (go _ ⟨.fz (.lst (rs.map λr:Nat=>L2.T.int (r:Nat))),.und,.und,.und,rs.map λr=>(r,mkRat 1 rs.length),by rw[e2];rfl,λp hp=>.even r0 (aL (WG rl) n4) rlt hp⟩)⟩;rw[show nwT (r,mkRat 1 rs.length)=.tup [.int (r:Nat),frR (mkRat 1 rs.length)]from rfl,Uu r0,<- ak (f:=λr:Nat=>L2.T.int (r:Nat))]at hN;exact hN
  .have x7:=sl 7;have x12:=sl 12;obtain⟨n,en,n0,n4⟩ : ∃n:Nat,9+strm c 7%4=((8+n:Nat):Int)/\0<n/\n<=4:=⟨(1+strm c 7%4).toNat,by lia,by lia,by lia⟩;refine⟨_,cZ (k:=7),by decide,?_⟩;show(gR ((jQ c 14).map L2.T.int) (some 8) (some (9+strm c 7%4))).length<=sizeLine/\jK _ _ _ _ (gR ((jQ c 14).map L2.T.int) (some 8) (some (9+strm c 7%4))) _;have ec3:gR ((jQ c 14).map L2.T.int) (some 8) (some (9+strm c 7%4))=(((jQ c 14).drop 8).take n).map L2.T.int:=by
    rw[en,Am];have:=WQ (ys:=jQ c 14) (a:=8) (b:=8+n) (X1 _ _) (by rw[ak,WJ];lia);rw[show 8+n-8=n by exact Tk _ _]at this;exact ZH (List.map L2.T.int) this
   have ul:(((jQ c 14).drop 8).take n).length=n:=by rw[aY,US,ak,WJ];lia
   rw[ec3];generalize((jQ c 14).drop 8).take n=us at ul ⊢;obtain⟨d,hd,ed⟩:=ZQ [3,3,3,1000] L2.T.int (i:=strm c 12%4) (Z3 _ (by decide)) (by show strm c 12%4<4;exact YY _ (by decide));have d0:0<d/\d<=1000:=by simp at hd;lia
   refine⟨by rw[ak];exact aL (show _<=4 by exact aL (WG ul) n4) (by decide),comp_map L2.T.int (λx=>L2.T.int (x%d)) us (λx hx N M hN=>⟨_,cZ (k:=12),by decide,_,ed,d0.1,hN⟩) ?_⟩;have em:us.map (λx=>L2.T.int (x%d))=(us.map (· % d)).map L2.T.int:=by rw[WS];rfl
   rw[em];have wl:(us.map (· % d)).length=n:=by rw[ak];exact ul
   have ww:∀w∈us.map (· % d),0<=w/\w<1000:=λw hw=>by
    obtain⟨x,_,rfl⟩:=YV.mp hw;have:=Z3 x (show d≠0 by lia);have:=YY x d0.1;lia
   generalize us.map (· % d)=ws at wl ww ⊢;obtain⟨vs,v,rfl⟩ : ∃vs v,ws=vs++[v]:=by
    rcases List.eq_nil_or_concat ws with rfl|⟨vs,v,e⟩
    .cases wl;cases n0
    .exact⟨vs,v,by rw[e,List.concat_eq_append]⟩
   rw[aA,List.length_singleton]at wl;have ixl:ixT ((vs++[v]).map L2.T.int) (-1)=some (.int v):=by
    show nth ((vs++[v]).map L2.T.int).reverse 0=_;rw[bf,List.reverse_append]
    rfl
   have ixn:ixN ((vs++[v]).map L2.T.int).length (-1)=some vs.length:=by
    unfold ixN;rw[ak,aA,List.length_singleton];rw[ZZ (by decide),ZY (by lia)]
    congr 1
    lia
   refine⟨_,ixl,_,ixn,?_⟩;have es:((vs++[v]).map L2.T.int).set vs.length (.int (v+1))=(vs++[v+1]).map L2.T.int:=by
    rw[bf,bf,List.set_append_right _ _ (by rw[ak];exact aG _),ak,JU]
    rfl
   dsimp only[frz];rw[es];have l6:(vs++[v+1]).length=n:=by rw[aA,List.length_singleton];exact wl
   have l0:∀w∈vs++[v+1],0<=w/\w<=1000:=λw hw=>by
    rcases Y1.mp hw with z|z
    .have:=ww w (TR _ z);lia
    .have:=ww v (aP _ (YR.mpr rfl));rw[YR.mp z];lia
   have s0:0<(vs++[v+1]).sum:=by
    have:0<=vs.sum:=aaj λw hw=>(ww w (TR _ hw)).1;have:=(ww v (aP _ (YR.mpr rfl))).1;rw[List.sum_append];show 0<vs.sum+(v+1+0);lia
   have s1:(vs++[v+1]).sum<=1000*(vs++[v+1]).length:=YZ λw hw=>(l0 w hw).2;generalize vs++[v+1]=us at l6 l0 s0 s1 ⊢;have ul':(us.map L2.T.int).length=us.length:=ak ..;have r4:∀k,k<4->([2,3,4,5].map rm)[k]?=some (rm (k+2)):=λk hk=>by
    obtain rfl|rfl|rfl|rfl:k=0\/k=1\/k=2\/k=3:=by lia
    all_goals rfl
   have z:∀k(hk:k<us.length),((([2,3,4,5].map rm).zip us).map λx=>(x.1,Rat.divInt x.2 us.sum))[k]?=some (rm (k+2),Rat.divInt (us.getD k 0) us.sum):=λk hk=>by
    rw[aq,List.getElem?_zip_eq_some (z:=(rm (k+2),us.getD k 0)) |>.mpr ⟨r4 k (by lia),by rw[au,aj hk];rfl⟩]
    rfl
   have ep:(List.range (us.map L2.T.int).length).map (λk=>nwT (rm (k+2),Rat.divInt (us.getD k 0) us.sum))=((([2,3,4,5].map rm).zip us).map λx=>(x.1,Rat.divInt x.2 us.sum)).map nwT:=by
    refine List.ext_getElem? λk=>?_;rw[ul'];by_cases hk:k<us.length
    .rw[aq,VQ hk,aq,z k hk]
     rfl
    .rw[aM (by rw[ak,WJ];exact VS hk),aM (by rw[ak,ak,VV];omega)]
   refine⟨⟨by lia,by lia⟩,by rw[rng,ak,WJ];exact aL (show _<=4 by lia) (by decide),Gf (λk=>nwT (rm (k+2),Rat.divInt (us.getD k 0) us.sum)) (us.map L2.T.int).length (λk hk N M hN=>?_) (go _ ⟨.fz (.lst ([2,3,4,5].map λk=>L2.T.int (rm k:Nat))),.und,.und,.fz (.lst (us.map L2.T.int)),(([2,3,4,5].map rm).zip us).map λx=>(x.1,Rat.divInt x.2 us.sum),by rw[ep];rfl,λp hp=>LDk.mix (rs:=[2,3,4,5].map rm) (aL (WG l6) n4) (λr hr=>?_) (λw hw=>(l0 w hw).1) (show us.length<=4 by exact aL (WG l6) n4) s0 (by lia) hp⟩)⟩
   .rw[ul']at hk;have ek:us[k]?=some (us.getD k 0):=by rw[au,aj hk];rfl
    have e4:=r4 k (by lia);rw[aq]at e4;refine⟨.int (rm (k+2):Nat),?_,_,eE ek,us,rfl,_,_,rfl,s0,iB (by lia),hN⟩;show nth _ k=_;rw[qQ,aq];cases z2:([2,3,4,5] : List Nat)[k]? with
    |none=>rw[z2]at e4;cases e4
    |some j=>rw[z2]at e4;injection e4 with e4;show some (L2.T.int (rm j:Nat))=_;rw[show rm j=rm (k+2)from e4]
   .obtain⟨k,_,rfl⟩:=YV.mp hr;exact i6 k
structure DSk(m mo:Nat)(ae:List (List LD)):Prop where
 len:ae.length=m
 few:∀ds∈ae,ds.length<=mo
 ok:∀ds∈ae,∀d∈ds,LDk m d
abbrev dsT(ae:List (List LD)):List (List T):=ae.map λds=>ds.map ldT
abbrev BW(ae:List (List LD)):T:=.lst (ae.map λds=>.lst (ds.map ldT))
def acG(ae:List (List LD)):frz (.l2 (dsT ae))=BW ae:=by
 show L2.T.lst ((ae.map λds=>ds.map ldT).map L2.T.lst)=_;rw[WS]
 rfl
def DSk.add{m mo:Nat}{ae:List (List LD)}(h:DSk m mo ae){k:Nat}{ds:List LD}{d:LD}(e:ae[k]?=some ds)(lt:ds.length<mo)(hd:LDk m d):DSk m mo (ae.set k (ds++[d])):=by
 refine⟨by rw[WH,h.len],λx hx=>?_,λx hx y hy=>?_⟩
 .rcases List.mem_or_eq_of_mem_set hx with z|rfl
  .exact h.few x z
  .rw[aA,List.length_singleton];exact lt
 .rcases List.mem_or_eq_of_mem_set hx with z|rfl
  .exact h.ok x z y hy
  .rcases Y1.mp hy with z|z
   .exact h.ok ds (aC e) y z
   .rw[YR.mp z];exact hd
def afF{ae:List (List LD)}{r:Nat}{ds:List LD}(e:ae[r]?=some ds):ixT ((dsT ae).map L2.T.lst) (r:Nat)=some (.lst (ds.map ldT)):=by
 show nth ((dsT ae).map L2.T.lst) r=_;rw[qQ,aq,aq,e];rfl
def R9:ST:=λts q=>∃(ns:List Int)(a m mo:Nat),ts=[scT ns,.int (a:Nat),.int (m:Nat),.int (mo:Nat)]/\ns.length<=100/\m<=300/\mo<=1000/\∀ae:List (List LD),DSk m mo ae->q (.l2 (dsT ae))
def aat(T:Tx D)(nW:gT 1 FJ yr Ms)(cF:gT 1 gF dY iI)(TV:gT 4 Nh Bh Wu)(F:Fu Il Gg f fd):FT 5 f fd xu R9:=by
 refine F.okT Qx λai A outer s H E hr nd=>?_;refine⟨_,(bC (acT (bF Gg) O8 O8 ["_law_k"] (dG T.fj (bw (qv 2) bA)) (g_ (i:=0)) cJ (dz bA) (jC (i:=4) Qx.nd rfl (Or.inl rfl)))
  (bC (cB (b_ KJ (qv 2) bx)
  (bC (bQ 5 (bH nW (bw (qv 0) (bw (qv 1) bA))))
  (bC (bQ 6 (bH cF (bw (qv 5) (bw (bJ cj (bJ cj (bJ FZ (qv 5) bx) bx) (bJ cD (bJ dU bx (qv 2)) bx)) bA))))
  (bG (eV (cR (bJ cD (qv 6) (jT (qv 0) (gZ (bJ cD (qv 1) bx)) (gZ (bJ cD (qv 1) bx))))) (bW (n:=99) 7)
  (bC (zF (bH TV (bw (qv 7) (bw (qv 2) bA))) (fW (n:=2) (bT (bW (n:=99) 8) (bT (bW (n:=99) 9) dO))))
  (bG (cB (Ti 4 (b_ uz (bL cH T.dg WP (bw (bI (qv 4) (qv 8)) bA)) (qv 3)))
  (bG (adb 4 (qv 8) (qv 9)))
  bR)))))))
  bR)
  (bG (oH 4)))),?_⟩
 rintro _ R ⟨ns,a,m,mo,rfl,nl,m1,mo1,q⟩;have e0:(List.range m).map (λ_=>([] : List L2.T))=dsT (List.replicate m []):=by
  unfold dsT;rw[List.map_replicate,List.map_const',WJ]
  rfl
 have h0:DSk m mo (List.replicate m []):=⟨aN,λx hx=>by rw[(List.mem_replicate.mp hx).2];exact aZ _,λx hx y hy=>by rw[(List.mem_replicate.mp hx).2]at hy;cases hy⟩;refine⟨⟨by lia,by lia⟩,by rw[rng,ak,WJ];exact aL m1 (by decide),Qz (λ_=>[]) m (λk hk N M hN=>hN) ?_⟩;rw[e0];refine swD (λhm=>?_) λhm=>q _ h0;refine⟨ns,a,rfl,nl,?_⟩;dsimp only[frz];generalize ns.getD a 0=fi;have mz:(0:Int)<3*(m:Nat)+1:=by lia
 obtain⟨n,en,n1⟩ : ∃n:Nat,fi*48271%104729%(3*(m:Nat)+1)=(n:Nat)/\n<=3*m:=⟨(fi*48271%104729%(3*(m:Nat)+1)).toNat,by
  have:=Z3 (fi*48271%104729) (show(3*(m:Nat)+1:Int)≠0 by exact WU mz);lia,by
  have:=YY (fi*48271%104729) mz;have:=Z3 (fi*48271%104729) (show(3*(m:Nat)+1:Int)≠0 by exact WU mz);lia⟩
 refine⟨.inr (by constructor<;>decide),by decide,⟨iB (by decide),iB (by lia)⟩,mz,fi,n,by rw[en];rfl,by lia,?_⟩;have ec:(jQ fi n).map L2.T.int++gR (ns.map L2.T.int) (some ((a:Nat)+1)) (some ((a:Nat)+25))=(jQ fi n++gR ns (some ((a:Nat)+1)) (some ((a:Nat)+25))).map L2.T.int:=by rw[Am,bf]
 have cl:(gR ns (some ((a:Nat)+1)) (some ((a:Nat)+25))).length<=100:=by
  unfold gR;rw[aY,US];lia
 show((jQ fi n).map L2.T.int).length+(gR (ns.map L2.T.int) (some ((a:Nat)+1)) (some ((a:Nat)+25))).length<=sizeLine/\_;refine⟨?_,?_⟩
 .rw[Am,ak,ak,ak,WJ];exact aL (show _<=1100 by lia) (by decide)
 dsimp only[frz];rw[ec];have sl:(jQ fi n++gR ns (some ((a:Nat)+1)) (some ((a:Nat)+25))).length<=1100:=by rw[aA,ak,WJ];lia
 generalize jQ fi n++gR ns (some ((a:Nat)+1)) (some ((a:Nat)+25))=cs at sl ⊢;generalize jQ fi n=ss at ec ⊢;refine jc L2.T.int cs (λ_ o=>∃(ae:List (List LD))(x7 x8 x9:OT),o=[.fz (scT ns),.fz (.int (a:Nat)),.fz (.int (m:Nat)),.fz (.int (mo:Nat)),.l2 (dsT ae),.fz (.int fi),.fz (.lst (ss.map L2.T.int)),x7,x8,x9]/\DSk m mo ae) ⟨_,_,_,_,rfl,h0⟩ ?_ ?_
 .rintro done c rest _ _ ⟨ae,x7,x8,x9,rfl,h⟩;dsimp only[hName];refine⟨c,m,rfl,by lia,by exact aL m1 (by decide),λr d hr hd=>⟨rfl,?_⟩⟩;have lr:r<ae.length:=by rw[h.len];exact hr
  have er:=aj lr;refine⟨_,afF er,swD (λlt=>?_) λ_=>⟨ae,.fz (.int c),.fz (.int (r:Nat)),.fz (ldT d),rfl,h⟩⟩;have lt:((ae[r].map ldT).length:Int)<(mo:Nat):=lt;rw[ak]at lt;refine⟨r,ae[r].map ldT,?_,by rw[aq,er];rfl,by rw[ak];exact aR (show _<1001 by lia) (by decide),ae.set r (ae[r]++[d]),.fz (.int c),.fz (.int (r:Nat)),.fz (ldT d),?_,h.add er (by lia) hd⟩
  .unfold ixN;rw[ak,ZY (X9 _),ZY (by lia)]
   rfl
  .rw[show dsT (ae.set r (ae[r]++[d]))=(dsT ae).set r (ae[r].map ldT++[ldT d])by
    unfold dsT;rw[Zzu,bf]
    rfl]
   rfl
 .rintro _ ⟨ae,x7,x8,x9,rfl,h⟩;exact q ae h
def st_size:ST:=λts q=>∃c:Int,ts=[.int c]/\∀n:Nat,1<=n->n<=8->q (.fz (.int (n:Nat)))
def adO(T:Tx D)(cF:gT 1 gF dY iI)(F:Fu Ph U5 f fd):FT 2 f fd BR st_size:=by
 refine F.okT adP λai A outer s H E hr nd=>?_;refine⟨_,(bC (bQ 1 (bH cF (bw (qv 0) (bw bx bA))))
  (bC (cB (b_ (go_eq hr.units) (bJ cj (bI (qv 1) bx) bx) bx)
  (bG (bM (bJ cD bx (bJ cj (bI (qv 1) bx) bx))))
  bR)
  (bG (bM (bJ cD bx (bJ cj (bI (qv 1) bx) bx)))))),?_⟩
 rintro _ R ⟨c,rfl,q⟩;have s1:=lF c 1;have s1':0<=strm c 1:=s1.1;refine⟨c,2,rfl,by decide,_,cZ (k:=0),by decide,swD (λh=>⟨_,cZ (k:=1),by decide,?_⟩) λh=>⟨_,cZ (k:=1),by decide,?_⟩⟩
 .have:=q (5+strm c 1%4).toNat (by lia) (by lia);rw[show(((5+strm c 1%4).toNat:Nat):Int)=5+strm c 1%4 by lia]at this;exact this
 .have:=q (1+strm c 1%4).toNat (by lia) (by lia);rw[show(((1+strm c 1%4).toNat:Nat):Int)=1+strm c 1%4 by lia]at this;exact this
def zJ(ws:List (Nat×Rat))(p:Nat×Rat):List (Nat×Rat):=if(ws.any λx=>decide (x.1=p.1))=true then ws.map (λx=>if x.1=p.1 then(x.1,x.2+p.2)else x)else ws++[p]
def z9(ps:List (Nat×Rat)):List (Nat×Rat):=ps.foldl zJ []
def vd(ps:List (Nat×Rat)):List (Nat×Rat):=(z9 ps).filter λp=>!decide (p.2=0)
abbrev nmP(ns:Θ)(p:Nat×Rat):Str×Rat:=(ns.getD p.1 ⟨#[]⟩,p.2)
def NK{ns:Θ}(nd:ns.Nodup){i j:Nat}(hi:i<ns.length)(hj:j<ns.length):(ns.getD i ⟨#[]⟩=ns.getD j ⟨#[]⟩)↔i=j:=by
 constructor
 .intro h;rw[au,au,aj hi,aj hj]at h;rcases Nat.lt_trichotomy i j with l|l|l
  .exact absurd h ((List.pairwise_iff_getElem.mp nd) i j hi hj l)
  .exact l
  .exact absurd h.symm ((List.pairwise_iff_getElem.mp nd) j i hj hi l)
 .intro h;rw[h]
def afx{ns:Θ}(nd:ns.Nodup){ws:List (Nat×Rat)}{p:Nat×Rat}(hw:∀w∈ws,w.1<ns.length)(hp:p.1<ns.length):addW (ws.map (nmP ns)) (nmP ns p)=(zJ ws p).map (nmP ns):=by
 have an:((ws.map (nmP ns)).any λx=>decide (x.1=(nmP ns p).1))=ws.any λx=>decide (x.1=p.1):=by
  rw[List.any_map];refine Bool.eq_iff_iff.mpr ⟨λh=>?_,λh=>?_⟩
  .obtain⟨x,hx,e⟩:=List.any_eq_true.mp h;exact List.any_eq_true.mpr ⟨x,hx,Zs ((NK nd (hw x hx) hp).mp (of_decide_eq_true e))⟩
  .obtain⟨x,hx,e⟩:=List.any_eq_true.mp h;exact List.any_eq_true.mpr ⟨x,hx,Zs ((NK nd (hw x hx) hp).mpr (of_decide_eq_true e))⟩
 unfold addW zJ;rw[an];split
 .rw[WS,WS];refine UU λx hx=>?_;show(if(nmP ns x).1=(nmP ns p).1 then _ else _)=nmP ns (if x.1=p.1 then _ else _);by_cases e:x.1=p.1
  .rw[ZY e,ZY ((NK nd (hw x hx) hp).mpr e)]
  .rw[ZZ e,ZZ λz=>e ((NK nd (hw x hx) hp).mp z)]
 .rw[bf];rfl
def FN{ws:List (Nat×Rat)}{p w:Nat×Rat}(h:w∈zJ ws p):(w∈ws/\w.1≠p.1)\/w=p\/∃x∈ws,x.1=p.1/\w=(x.1,x.2+p.2):=by
 unfold zJ at h;split at h
 .obtain⟨x,hx,rfl⟩:=YV.mp h;by_cases e:x.1=p.1
  .rw[ZY e];exact .inr (.inr ⟨x,hx,e,rfl⟩)
  .rw[ZZ e];exact .inl ⟨hx,e⟩
 .rename_i n
  rcases Y1.mp h with z|z
  .exact .inl ⟨z,λe=>n (List.any_eq_true.mpr ⟨w,z,Zs e⟩)⟩
  .exact .inr (.inl (YR.mp z))
def Wk{ns:Θ}(nd:ns.Nodup){ps:List (Nat×Rat)}(h:∀p∈ps,p.1<ns.length):jO (ps.map (nmP ns))=(z9 ps).map (nmP ns):=by
 suffices H:∀(ps ws:List (Nat×Rat)),(∀p∈ps,p.1<ns.length)->(∀w∈ws,w.1<ns.length)->(ps.map (nmP ns)).foldl addW (ws.map (nmP ns))=(ps.foldl zJ ws).map (nmP ns)from H ps [] h λ_ z=>(nomatch z)
 intro ps
 induction ps with
 |nil=>exact λ_ _ _=>rfl
 |cons p ps ih =>
  intro ws hp hw;rw[List.map_cons,List.foldl_cons,List.foldl_cons,afx nd hw (hp p (aO ..))];refine ih _ (λq hq=>hp q (aJ _ hq)) λw hm=>?_;rcases FN hm with⟨z,_⟩|rfl|⟨x,hx,_,rfl⟩
  .exact hw w z
  .exact hp w (aO ..)
  .exact hw x hx
def adH{ns:Θ}(nd:ns.Nodup){ps:List (Nat×Rat)}(h:∀p∈ps,p.1<ns.length):Aq (ps.map (nmP ns))=(vd ps).map (nmP ns):=by
 unfold Aq vd;rw[Wk nd h,List.filter_map]
 rfl
def xY{r:Rat}{q:Nat}(hq:0<q):r.den ∣ q↔∃x:Int,r=Rat.divInt x q:=by
 constructor
 .rintro⟨k,rfl⟩;refine⟨r.num*k,?_⟩;have hk:((k:Nat):Int)≠0:=λz=>by rw[show k=0 by lia]at hq;lia
  conv=>lhs;rw[<- rd r]
  refine(JJ (nF r) (by push_cast;exact nM (nF r) hk)).mpr ?_
  push_cast
  grind
 .rintro⟨x,rfl⟩;have:=NT (a:=x) (b:=(q:Nat)) (by lia);exact this
def IK{a b:Rat}{q:Nat}(hq:0<q)(ha:a.den ∣ q)(hb:b.den ∣ q):(a+b).den ∣ q:=by
 obtain⟨x,rfl⟩:=(xY hq).mp ha;obtain⟨y,rfl⟩:=(xY hq).mp hb;have h0:((q:Nat):Int)≠0:=by lia
 refine(xY hq).mpr ⟨x+y,?_⟩;rw[Qr _ _ h0 h0];refine(JJ (nM h0 h0) h0).mpr ?_
 grind
def den_mul{a b:Rat}{q r:Nat}(hq:0<q)(hr:0<r)(ha:a.den ∣ q)(hb:b.den ∣ r):(a*b).den ∣ q*r:=by
 obtain⟨x,rfl⟩:=(xY hq).mp ha;obtain⟨y,rfl⟩:=(xY hr).mp hb;refine(xY (QP hq hr)).mpr ⟨x*y,?_⟩;rw[QY]
 push_cast
 rfl
theorem acM{a:Rat} : (-a).den=a.den:=rfl
structure JnI(m q:Nat)(as ws:List (Nat×Rat)):Prop where
 nd:(ws.map (·.1)).Nodup
 lt:∀w∈ws,w.1<m
 nn:∀w∈ws,0<=w.2
 dn:∀w∈ws,w.2.den ∣ q
 sum:∀y:Nat->Rat,dw ws y=dw as y
 few:ws.length<=as.length
def T8(as bs:List (Nat×Rat))(y:Nat->Rat):dw (as++bs) y=dw as y+dw bs y:=by
 induction as with
 |nil=>show dw bs y=0+_;rw[Zzy]
 |cons a as ih=>rw[List.cons_append,fP,fP,ih,Rat.add_assoc]
def aaU(p:Nat×Rat)(y:Nat->Rat):dw [p] y=p.2*y p.1:=by rw[fP];show _+0=_;rw[QQ]
def afj{ws:List (Nat×Rat)}{p:Nat×Rat}(nd:(ws.map (·.1)).Nodup)(y:Nat->Rat):dw (zJ ws p) y=dw ws y+p.2*y p.1:=by
 unfold zJ;split
 .rename_i h
  induction ws with
  |nil=>cases h
  |cons x ws ih =>
   obtain⟨n1,n2⟩:=List.nodup_cons.mp nd;rw[List.map_cons,fP,fP];by_cases e:x.1=p.1
   .rw[ZY e];have rest:ws.map (λx=>if x.1=p.1 then(x.1,x.2+p.2)else x)=ws:=by
     conv=>rhs;rw[<- List.map_id ws]
     refine UU λz hz=>?_;rw[ZZ λw=>n1 (YV.mpr ⟨z,hz,w.trans e.symm⟩)]
     rfl
    rw[rest,<- e];show(x.2+p.2)*y x.1+dw ws y=_
    grind
   .rw[ZZ e,ih n2 (by
     rw[List.any_cons,Zp e,Bool.false_or]at h;exact h)]
    grind
 .rw[T8,aaU]
def afC{ws:List (Nat×Rat)}{p:Nat×Rat}(nd:(ws.map (·.1)).Nodup):((zJ ws p).map (·.1)).Nodup:=by
 unfold zJ;by_cases h:(ws.any λx=>decide (x.1=p.1))=true
 .rw[ZY h,WS];rw[show ws.map ((λx=>x.1) ∘ λx=>if x.1=p.1 then(x.1,x.2+p.2)else x)=ws.map (·.1)from UU λx _=>by show(if x.1=p.1 then(x.1,x.2+p.2)else x).1=x.1;split<;>rfl];exact nd
 .rw[ZZ h,bf];refine List.nodup_append.mpr ⟨nd,by simp,λa ha b hb z=>h ?_⟩;obtain⟨x,hx,rfl⟩:=YV.mp ha;rw[List.map_singleton,YR]at hb;exact List.any_eq_true.mpr ⟨x,hx,Zs (z.trans hb)⟩
def aef{m q:Nat}(hq:0<q){as ws:List (Nat×Rat)}{p:Nat×Rat}(hp:p.1<m/\0<=p.2/\p.2.den ∣ q)(h:JnI m q as ws):JnI m q (as++[p]) (zJ ws p):=by
 refine⟨afC h.nd,λw hw=>?_,λw hw=>?_,λw hw=>?_,λy=>by rw[afj h.nd,h.sum,T8,aaU],?_⟩
 .rcases FN hw with⟨z,_⟩|rfl|⟨x,hx,_,rfl⟩
  .exact h.lt w z
  .exact hp.1
  .exact h.lt x hx
 .rcases FN hw with⟨z,_⟩|rfl|⟨x,hx,_,rfl⟩
  .exact h.nn w z
  .exact hp.2.1
  .have:=h.nn x hx;have:=hp.2.1;show 0<=x.2+p.2
   grind
 .rcases FN hw with⟨z,_⟩|rfl|⟨x,hx,_,rfl⟩
  .exact h.dn w z
  .exact hp.2.2
  .exact IK hq (h.dn x hx) hp.2.2
 .have:=h.few;unfold zJ;split
  .rw[ak,aA];exact aL this (X1 _ _)
  .rw[aA,aA];simp;omega
def Ku{m q:Nat}(hq:0<q):∀{ps:List (Nat×Rat)},(∀p∈ps,p.1<m/\0<=p.2/\p.2.den ∣ q)->JnI m q ps (z9 ps):=by
 intro ps h
 suffices H:∀(ps as ws:List (Nat×Rat)),(∀p∈ps,p.1<m/\0<=p.2/\p.2.den ∣ q)->JnI m q as ws->JnI m q (as++ps) (ps.foldl zJ ws)from H ps [] [] h ⟨.nil,λ_ z=>(nomatch z),λ_ z=>(nomatch z),λ_ z=>(nomatch z),λ_=>rfl,aG _⟩
 intro ps
 induction ps with
 |nil=>intro as ws _ h;rw[List.append_nil];exact h
 |cons p ps ih =>
  intro as ws hp h;have:=ih (as++[p]) (zJ ws p) (λx hx=>hp x (aJ _ hx)) (aef hq (hp p (aO ..)) h);rw[Wp]at this;exact this
theorem Dt(y:Nat->Rat):∀ws:List (Nat×Rat),dw (ws.filter λp=>!decide (p.2=0)) y=dw ws y
 |[]=>rfl
 |w::ws=>by
  by_cases e:w.2=0
  .rw[Zwz (by rw[Zs e];decide),Dt y ws,fP,e,Zzt,Zzy]
  .rw[List.filter_cons_of_pos (by rw[Zp e];rfl),fP,fP,Dt y ws]
def LC{m q:Nat}(hq:0<q){ps:List (Nat×Rat)}(h:∀p∈ps,p.1<m/\0<=p.2/\p.2.den ∣ q):JnI m q ps (vd ps):=by
 have j:=Ku hq h;have sub:∀w∈vd ps,w∈z9 ps:=λw hw=>(List.mem_filter.mp hw).1;refine⟨(List.filter_sublist.map _).nodup j.nd,λw hw=>j.lt w (sub w hw),λw hw=>j.nn w (sub w hw),λw hw=>j.dn w (sub w hw),λy=>?_,aL (List.length_filter_le ..) j.few⟩;unfold vd;rw[Dt,j.sum]
theorem rG{w:Nat×Rat} : ∀{ws:List (Nat×Rat)},(∀w∈ws,0<=w.2)->w∈ws->w.2<=dw ws λ_=>1
 |[],_,h=>by cases h
 |x::ws,nn,h=>by
  rw[fP];have n0:∀ws:List (Nat×Rat),(∀w∈ws,0<=w.2)->0<=dw ws λ_=>1:=λws=>by
   induction ws with
   |nil=>intro _;exact UT
   |cons y ws ih =>
    intro h;rw[fP];have:=h y (aO ..);have:=ih λw hw=>h w (aJ _ hw)
    grind
  rcases YU.mp h with rfl|z
  .have:=n0 ws λw hw=>nn w (aJ _ hw)
   grind
  .have:=rG (ws:=ws) (λw hw=>nn w (aJ _ hw)) z;have:=nn x (aO ..)
   grind
theorem Ak:∀ps:List (Nat×Rat),(dw ps λ_=>1)=B_ (ps.map (·.2))
 |[]=>rfl
 |p::ps=>by
  rw[fP,Ak ps,Rat.mul_one]
  rfl
def LDk.all{m:Nat}{d:LD}(h:LDk m d):∃q:Nat,0<q/\q<=4000/\∀p∈d.prs,p.1<m/\0<=p.2/\p.2.den ∣ q:=by
 obtain⟨q,q0,q1,hq⟩:=h.dn;exact⟨q,q0,q1,λp hp=>⟨h.lt p hp,h.nn p hp,hq p hp⟩⟩
def Zy{q:Nat}{r:Rat}(q0:0<q)(q1:q<=4000)(h0:0<=r)(h1:r<=1)(hd:r.den ∣ q):Ch r:=⟨h0,h1,iB (by have:=UY q0 hd;lia)⟩
def LDk.prsOk{m:Nat}{d:LD}{ns:Θ}(h:LDk m d)(hn:Nms ns m):Prs (d.prs.map (nmP ns)):=by
 obtain⟨q,q0,q1,hq⟩:=h.all;have le1:∀p∈d.prs,p.2<=1:=λp hp=>by
  rw[<- h.one,<- Ak];exact rG h.nn hp
 have few:=h.few;have m2:(d.prs.map (nmP ns)).map (·.2)=d.prs.map (·.2):=by rw[WS];rfl
 refine⟨by rw[ak];exact aL few (by decide),λp hp=>?_,?_,by rw[m2];exact h.one,λas a bs e=>?_⟩
 .obtain⟨x,hx,rfl⟩:=YV.mp hp;obtain⟨x1,x2,x3⟩:=hq x hx;have lx:x.1<ns.length:=by rw[hn.len];exact x1
  refine⟨hn.wd _ ?_,Zy q0 q1 x2 (le1 x hx) x3⟩;show ns.getD x.1 ⟨#[]⟩∈ns;rw[au,aj lx];exact aU lx
 .rw[m2];have:=sZ (d.prs.map (·.2)) (n:=1) (m:=q) (U1 _) λr hr=>by
   obtain⟨x,hx,rfl⟩:=YV.mp hr;exact(hq x hx).2.2
  have:=UY q0 this;exact iB (by lia)
 .obtain⟨i',bs',e0,rfl,e2⟩:=List.map_eq_append_iff.mp e;obtain⟨a',cs',rfl,rfl,rfl⟩:=List.map_eq_cons_iff.mp e2;have sub:∀p∈i',p∈d.prs:=λp hp=>e0 ▸ TR _ hp;have ha:=hq a' (e0 ▸ aP _ (aO ..));have ca:Ch a'.2:=Zy q0 q1 ha.2.1 (le1 a' (e0 ▸ aP _ (aO ..))) ha.2.2;have j:=Ku q0 (ps:=i') (m:=m) λp hp=>hq p (sub p hp);rw[Wk hn.nd λp hp=>by rw[hn.len];exact(hq p (sub p hp)).1];have cn:Ch (zR ((z9 i').map (nmP ns)) (nmP ns a').1):=by
   unfold zR;cases ef:((z9 i').map (nmP ns)).find? λx=>decide (x.1=(nmP ns a').1)with
   |none=>exact⟨UT,by show(0:Rat)<=1;decide,iB (by decide)⟩
   |some x =>
    obtain⟨y,hy,rfl⟩:=YV.mp (List.mem_of_find?_eq_some ef);refine Zy q0 q1 (j.nn y hy) ?_ (j.dn y hy);have l1:=rG j.nn hy;rw[j.sum]at l1;have l2:=h.one;rw[<- Ak,e0,T8]at l2;have l3:0<=dw (a'::cs') λ_=>1:=by
     have:∀ws:List (Nat×Rat),(∀w∈ws,0<=w.2)->0<=dw ws λ_=>1:=λws=>by
      induction ws with
      |nil=>intro _;exact UT
      |cons y ws ih =>
       intro h;rw[fP];have:=h y (aO ..);have:=ih λw hw=>h w (aJ _ hw)
       grind
     exact this _ λw hw=>h.nn w (e0 ▸ aP _ hw)
    show y.2<=1
    grind
  refine⟨cn.bq,ca.bq,?_⟩;have:=cn.2.2;have:=UY q0 ha.2.2;have rj:(zR ((z9 i').map (nmP ns)) (nmP ns a').1).den<=4000:=by
   unfold zR;cases ef:((z9 i').map (nmP ns)).find? λx=>decide (x.1=(nmP ns a').1)with
   |none=>exact U2 rfl
   |some x =>
    obtain⟨y,hy,rfl⟩:=YV.mp (List.mem_of_find?_eq_some ef);have:=UY q0 (j.dn y hy);exact aL this q1
  refine iB ?_;rw[VU,XT,XT];exact Y3 (VX rj (show a'.2.den<=4000 by exact aL this q1)) (by decide)
def clsOf(D:Adr):Nat->Addr
 |0=>D.Sure
 |1=>D.Toss
 |2=>D.Even
 |_=>D.Mixed
abbrev abz(t:Str)(d:LD):cg:=⟨t,d.pay,vd d.prs⟩
abbrev xP(D:Adr)(t:Str)(d:LD):Made:=⟨clsOf D d.sort,abz t d⟩
def abH(D:Adr):∀k,dB D (clsOf D k)
 |0=>by unfold dB clsOf;simp
 |1=>by unfold dB clsOf;simp
 |2=>by unfold dB clsOf;simp
 |_+3=>by unfold dB clsOf;simp
def Ss(D:Adr):ST:=λts q=>∃(t:Str)(d:LD)(ns:Θ)(m:Nat),ts=[.str t,ldT d,.lst (ns.map T.str)]/\Wd t/\Nms ns m/\LDk m d/\q (.fz (mdT ns (xP D t d)))
def Zk(T:Tx D)(xK:OkI P w K mg base CX0 5 D.Sure_init lW (spI K (Wr D)))(eZ:OkI P w K mg base CX0 5 D.Mixed_init gB (spI K (Ca D)))(vI:OkI P w K mg base CX0 6 D.Toss_init lR (spI K (Wz D)))(vf:OkI P w K mg base CX0 6 D.Even_init lD (spI K (Vp D)))(F:Fu G4 BJ f fd):FT 8 f fd wR (Ss D):=by
 refine F.okT QM λai A outer s H E hr nd=>?_;refine⟨_,(bC (zF (qv 1) (fW (n:=3) (bT (bW (n:=99) 4) (bT (bW (n:=99) 5) (bT (bW (n:=99) 6) dO)))))
  (bC (sS (bF BJ) BL BL ["_law_room","_law_chance"] (cR (qv 6)) (fW (n:=2) (bT (g_ (i:=0)) (bT (g_ (i:=1)) dO))) cJ (cX (bw (bI (qv 4) (qv 0)) (bw (qv 1) bA))) (jC (i:=3) QM.nd rfl (Or.inl rfl)))
  (bC (cB (b_ (go_eq hr.units) (qv 4) bx)
  (bG (bM (Af T.adZ xK T.afk (bw (qv 0) (bw (qv 5) (bw (bI (bI (qv 3) bx) bx) bA))))))
  bR)
  (bC (cB (b_ (go_eq hr.units) (qv 4) bx)
  (bG (bM (Af T.ab1 vI T.agi (bw (qv 0) (bw (qv 5) (bw (bI (bI (qv 3) bx) bx) (bw (bI (bI (qv 3) bx) bx) (bw (bI (bI (qv 3) bx) bx) bA))))))))
  bR)
  (bC (cB (b_ (go_eq hr.units) (qv 4) bx)
  (bG (bM (Af T.adS vf T.afD (bw (qv 0) (bw (qv 5) (bw (fM (bF BJ) BL BL ["_law_room","_law_chance"] (cR (qv 3)) (fW (n:=2) (bT (g_ (i:=0)) (bT (g_ (i:=1)) dO))) cJ (qv 0)) bA))))))
  bR)
  (bG (bM (Af T.Zw eZ T.Px (bw (qv 0) (bw (qv 5) (bw (qv 3) bA))))))))))),?_⟩
 rintro _ R ⟨t,d,ns,m,rfl,wt,hn,hd,q⟩;have few:=hd.few;have en:∀p∈d.prs,ixT (ns.map L2.T.str) (p.1:Nat)=some (.str (nmP ns p).1):=λp hp=>by
  have lp:p.1<ns.length:=by rw[hn.len];exact hd.lt p hp
  exact eE (by rw[aj lp];show _=some (ns.getD p.1 ⟨#[]⟩);rw[au,aj lp];rfl)
 have em:(d.prs.map (nmP ns)).map wyT=d.prs.map λp=>wyT (nmP ns p):=by rw[WS];rfl
 have pk:=hd.prsOk hn;have wk:=adH hn.nd (ps:=d.prs) λp hp=>by rw[hn.len];exact hd.lt p hp
 refine⟨rfl,by rw[ak];exact aL few (by decide),comp_map nwT (λp=>wyT (nmP ns p)) d.prs (λp hp N M hN=>⟨rfl,_,en p hp,hN⟩) ?_⟩;rw[<- em];obtain⟨so,pay,prs⟩:=d;have s4:so<4:=hd.sort;have s0:=hd.s0;have s1:=hd.s1;have s2:=hd.s2;dsimp only at *;obtain rfl|rfl|rfl|rfl:so=0\/so=1\/so=2\/so=3:=by lia
 .obtain⟨a,rfl⟩:=s0 rfl;have e1:vd [(a,1)]=[(a,1)]:=by simp[vd,z9,zJ]
  have q':R (.fz (drT D.Sure t pay ([(a,1)].map (nmP ns)))):=by rw[<- e1];exact q
  exact⟨_,rfl,t,_,pay,rfl,rfl,abB D,rfl,wt,(pk.ok (nmP ns (a,1)) (YR.mpr rfl)).1,q'⟩
 .obtain⟨a,b,x,rfl⟩:=s1 rfl;have q':R (.fz (drT D.Toss t pay (Aq ([(a,x),(b,1-x)].map (nmP ns))))):=by rw[wk];exact q
  exact⟨_,rfl,_,rfl,_,rfl,t,_,_,pay,x,rfl,rfl,abp D,rfl,wt,(pk.ok (nmP ns (a,x)) (aO ..)).2,pk,q'⟩
 .obtain⟨rs,rfl⟩:=s2 rfl;have q':R (.fz (drT D.Even t pay (Aq ((rs.map λr=>(r,mkRat 1 rs.length)).map (nmP ns))))):=by rw[wk];exact q
  have ev:even (((rs.map λr=>(r,mkRat 1 rs.length)).map (nmP ns)).map (·.1))=(rs.map λr=>(r,mkRat 1 rs.length)).map (nmP ns):=by
   have el:(((rs.map λr=>(r,mkRat 1 rs.length)).map (nmP ns)).map (·.1)).length=rs.length:=by simp
   unfold even;rw[el];simp[Function.comp_def]
  refine⟨by rw[ak,ak];exact aL few (by decide),comp_map wyT (λp=>.str p.1) ((rs.map λr=>(r,mkRat 1 rs.length)).map (nmP ns)) (λp hp N M hN=>⟨rfl,hN⟩) ⟨t,pay,((rs.map λr=>(r,mkRat 1 rs.length)).map (nmP ns)).map (·.1),rfl,rfl,abI D,?_,wt,by rw[ev];exact pk,?_⟩⟩
  .rw[show(((rs.map λr=>(r,mkRat 1 rs.length)).map (nmP ns)).map (·.1)).map L2.T.str=((rs.map λr=>(r,mkRat 1 rs.length)).map (nmP ns)).map λp=>L2.T.str p.1 from WS]
   rfl
  .rw[ev];exact q'
 .have q':R (.fz (drT D.Mixed t pay (Aq (prs.map (nmP ns))))):=by rw[wk];exact q
  exact⟨t,pay,prs.map (nmP ns),rfl,rfl,W6 D,rfl,wt,pk,q'⟩
structure Cg(ae:List (List LD))(off:List (List cg)):Prop where
 len:off.length=ae.length
 at_:∀(k:Nat)ds os,ae[k]?=some ds->off[k]?=some os->∃tl:Θ,tl.length=ds.length/\os=(tl.zip ds).map λp=>abz p.1 p.2
theorem QD{α β:Type} : ∀{xs:List α}{ys:List β}{x:α}(y:β),xs[ys.length]?=some x->xs.zip (ys++[y])=xs.zip ys++[(x,y)]
 |[],ys,_,_,e=>by cases e
 |a::xs,[],x,y,e=>by cases e;simp
 |a::xs,b::ys,x,y,e=>by
  rw[List.cons_append,List.zip_cons_cons,List.zip_cons_cons,QD (xs:=xs) (ys:=ys) y (by simpa using e)]
  rfl
theorem Rh{α β:Type}(f:α->T)(g:β->T):∀(xs:List α)(ys:List β),Jx (xs.map f) (ys.map g)=(xs.zip ys).map λp=>.tup [f p.1,g p.2]
 |[],ys=>by cases ys<;>rfl
 |_::_,[]=>rfl
 |x::xs,y::ys=>by
  rw[List.zip_cons_cons,List.map_cons,List.map_cons,List.map_cons,<- Rh f g xs ys]
  rfl
def V1(D:Adr):ST:=λts q=>∃(c:Int)(s:Rat)(m mo:Nat)(ae:List (List LD)),ts=[.int c,frR s,BW ae]/\Shr s/\DSk m mo ae/\m<=26/\mo<=26/\∀ns off,Nms ns m->Kq ns off->Cg ae off->q (.fz (hlT D s ns off))
def adU(T:Tx D)(Gj:gT 2 G5 vY Qm)(Py:gT 8 G4 wR (Ss D))(wM:OkI P w K mg base CX0 4 D.Hall_init lU (spI K (WY D)))(F:Fu Lx M5 f fd):FT 9 f fd Bu (V1 D):=by
 refine F.okT acZ λai A outer s H E hr nd=>?_;refine⟨_,(bC (bQ 3 (bH Gj (bw (qv 0) (bw (bL cH T.dg WP (bw (qv 2) bA)) bA))))
  (bC (jL 4 (dz bA))
  (bC (eV (dG T.fj (bw (bL cH T.dg WP (bw (qv 2) bA)) bA)) (bW (n:=99) 5)
  (bC (bQ 6 (bH Gj (bw (bJ cD (qv 0) (qv 5)) (bw (bL cH T.dg WP (bw (bI (qv 2) (qv 5)) bA)) bA))))
  (bG (tY 4 (cX (bw (bI (qv 3) (qv 5)) (bw (fM (bF M5) Ul Ul ["_law_title","_law_door_here"] (Vl T.Wn (bw (qv 6) (bw (bI (qv 2) (qv 5)) bA))) (fW (n:=2) (bT (g_ (i:=0)) (bT (g_ (i:=1)) dO))) cJ (bH Py (bw (qv 0) (bw (qv 1) (bw (qv 5) bA))))) bA)))))))
  (bG (CP 4 (bM (Af T.adE wM T.ag7 (bw (qv 1) (bw (qv 4) bA))))))))),?_⟩
 rintro _ R ⟨c,s,m,mo,ae,rfl,hs,hd,m1,mo1,q⟩;have dl:(ae.map λds=>L2.T.lst (ds.map ldT)).length=m:=by rw[ak,hd.len]
 refine⟨c,m,by rw[<- dl];rfl,m1,λns hn=>?_⟩;have nl:=hn.len;have e0:zK ns []=[]:=by simp[zK]
 refine⟨⟨by rw[dl];lia,by rw[dl];lia⟩,oR (λk o=>∃(ms:List (List Made))(x5 x6:OT),o=[.fz (.int c),.fz (frR s),.fz (BW ae),.fz (.lst (ns.map L2.T.str)),.l1 (zK ns ms),x5,x6]/\ms.length=k/\∀(i:Nat)ds x,ae[i]?=some ds->ms[i]?=some x->∃tl,Nms tl ds.length/\x=(tl.zip ds).map λp=>xP D p.1 p.2) ⟨[],.und,.und,by rw[e0];rfl,rfl,λi ds x _ z=>by cases z⟩ ?_ ?_⟩
 .rintro k _ hk ⟨ms,x5,x6,rfl,lm,hm⟩;have hk:k<m:=by rw[dl]at hk;lia
  have lk:k<ae.length:=by rw[hd.len];exact hk
  have ek:=aj lk;have mem:=aU lk;have fk:=hd.few _ mem;have kL:ixT (ae.map λds=>L2.T.lst (ds.map ldT)) (k:Nat)=some (.lst (ae[k].map ldT)):=eE ek;have nk:ns[k]?=some (ns.getD k ⟨#[]⟩):=by rw[au,aj (by lia)];rfl
  refine⟨_,kL,c+k,ae[k].length,by rw[<- ak (as:=ae[k]) (f:=ldT)];rfl,by exact aL fk mo1,λtl ht=>?_⟩;refine⟨_,eE nk,_,kL,?_⟩;have zl:(tl.zip ae[k]).length<=26:=by rw[VV];lia
  show(Jx (tl.map L2.T.str) (ae[k].map ldT)).length<=sizeLine/\jK _ _ _ _ (Jx (tl.map L2.T.str) (ae[k].map ldT)) _;rw[Rh];refine⟨by rw[ak];exact aL zl (by decide),comp_map (λp=>.tup [.str p.1,ldT p.2]) (λp=>mdT ns (xP D p.1 p.2)) (tl.zip ae[k]) (λp hp N M hN=>⟨rfl,p.1,p.2,ns,m,rfl,ht.wd _ (UX hp).1,hn,hd.ok _ mem _ (UX hp).2,hN⟩) ⟨?_,ms++[(tl.zip ae[k]).map λp=>xP D p.1 p.2],.fz (.int (k:Nat)),.fz (.lst (tl.map L2.T.str)),?_,by rw[aA,lm];rfl,λi ds x e1 e2=>?_⟩⟩
  .rw[ak,VV];exact aR (show _<1000 by lia) (by decide)
  .rw[show zK ns (ms++[(tl.zip ae[k]).map λp=>xP D p.1 p.2])=zK ns ms++[.tup [.str (ns.getD k ⟨#[]⟩),.lst ((tl.zip ae[k]).map λp=>mdT ns (xP D p.1 p.2))]]by
    unfold zK;rw[QD (x:=ns.getD k ⟨#[]⟩) _ (by rw[lm];exact nk),bf,List.map_singleton]
    congr 2
    show rmT (_,((tl.zip ae[k]).map λp=>xP D p.1 p.2).map (mdT ns))=_;rw[WS]
    rfl]
   rfl
  .by_cases hi:i<ms.length
   .rw[aF hi]at e2;exact hm i ds x e1 e2
   .have li:=(ao.mp e2).1;rw[aA,List.length_singleton]at li;have:i=k:=by lia
    subst this;rw[aD (WG lm),show i-ms.length=0 by lia]at e2;cases e2;rw[ek]at e1;cases e1;exact⟨tl,ht,rfl⟩
 .rintro _ ⟨ms,x5,x6,rfl,lm,hm⟩;have lm:ms.length=m:=by rw[lm];exact dl
  have all:∀x∈ms,∃ds∈ae,∃tl,Nms tl ds.length/\x=(tl.zip ds).map λp=>xP D p.1 p.2:=λx hx=>by
   obtain⟨i,hi⟩:=aV hx;have li:=(ao.mp hi).1;have ld:i<ae.length:=by rw[hd.len];exact aR li (WG lm)
   exact⟨_,aU ld,hm i _ x (aj ld) hi⟩
  have rk:aeH D ns ms:=by
   refine⟨by rw[lm,nl],by lia,hn.wd,hn.nd,λx hx=>?_⟩;obtain⟨ds,hds,tl,ht,rfl⟩:=all x hx;have fd:=hd.few ds hds;have jn:=ht.len;refine⟨by rw[ak,VV];lia,λy hy=>?_,λy hy=>?_,?_⟩
   .obtain⟨p,_,rfl⟩:=YV.mp hy;exact abH D _
   .obtain⟨p,hp,rfl⟩:=YV.mp hy;have lk:=hd.ok ds hds p.2 (UX hp).2;obtain⟨qq,q0,q1,hq⟩:=lk.all;have j:=LC q0 hq;have:=j.few;have:=lk.few;exact⟨by show(vd p.2.prs).length<=1000;lia,λw hw=>by rw[nl];exact j.lt w hw⟩
   .rw[WS];show((tl.zip ds).map λp=>p.1).Nodup;rw[List.map_fst_zip (WG jn)];exact ht.nd
  have bs:Bq s:=⟨iB (by
   have h0:=Rat.num_nonneg.mpr hs.lo;have h1:=(Rat.lt_iff s 1).mp hs.hi;have h1:s.num*((1:Rat).den:Int)<(1:Rat).num*(s.den:Int):=h1;have:=hs.den;simp at h1;lia),iB (by have:=hs.den;lia)⟩
  refine⟨s,ns,ms,rfl,rfl,rfl,rfl,hs.lo,hs.hi,bs,rk,q ns (offs ms) hn ⟨?_,by lia,λos nV=>?_⟩ ⟨?_,λk ds os e1 e2=>?_⟩⟩
  .rw[ak,lm,nl]
  .obtain⟨x,hx,rfl⟩:=YV.mp nV;rw[ak];exact(rk.mds x hx).few
  .rw[ak,lm,hd.len]
  .rw[aq]at e2;cases e3:ms[k]? with
   |none=>rw[e3]at e2;cases e2
   |some x =>
    rw[e3]at e2;cases e2;obtain⟨tl,ht,rfl⟩:=hm k ds x e1 e3;exact⟨tl,ht.len,WS⟩
structure PlD(ae:List (List LD))(pl:List (Option Nat)):Prop where
 len:pl.length=ae.length
 ok:∀(k:Nat)(d:Option Nat)(ds:List LD),pl[k]?=some d->ae[k]?=some ds->Ah d ds.length=true
def PlD.snoc{ae:List (List LD)}{k:Nat}{pl:List (Option Nat)}(h:∀(i:Nat)(d:Option Nat)(ds:List LD),i<k->pl[i]?=some d->ae[i]?=some ds->Ah d ds.length=true)(l:pl.length=k){ds:List LD}(ek:ae[k]?=some ds){d:Option Nat}(hd:Ah d ds.length=true):∀(i:Nat)(c:Option Nat)(es:List LD),i<k+1->(pl++[d])[i]?=some c->ae[i]?=some es->Ah c es.length=true:=λi c es hi e1 e2=>by
 by_cases z:i<k
 .rw[aF (by lia)]at e1;exact h i c es z e1 e2
 .have:i=k:=by lia
  subst this;rw[aD (WG l),show i-pl.length=0 by lia]at e1;cases e1;rw[ek]at e2;cases e2;exact hd
def KQ:ST:=λts q=>∃(c:Int)(ae:List (List LD)),ts=[.int c,BW ae]/\ae.length<=100/\∀pl:List (Option Nat),PlD ae pl->q (.l1 (pl.map dT))
def Xv(T:Tx D)(cF:gT 1 gF dY iI)(F:Fu Dc Im f fd):FT 2 f fd rF KQ:=by
 refine F.okT Xj λai A outer s H E hr nd=>?_;refine⟨_,(bC (bQ 2 (bH cF (bw (qv 0) (bw (bL cH T.dg WP (bw (qv 1) bA)) bA))))
  (bC (jL 3 (dz bA))
  (bC (eV (dG T.fj (bw (bL cH T.dg WP (bw (qv 1) bA)) bA)) (bW (n:=99) 4)
  (bG (cB (b_ (go_eq hr.units) (bL cH T.dg WP (bw (bI (qv 1) (qv 4)) bA)) bx)
  (bG (tY 3 iK))
  (bG (tY 3 (bJ cj (bI (qv 2) (qv 4)) (bL cH T.dg WP (bw (bI (qv 1) (qv 4)) bA))))))))
  (bG (oH 3))))),?_⟩
 rintro _ R ⟨c,ae,rfl,few,q⟩;have dl:(ae.map λds=>L2.T.lst (ds.map ldT)).length=ae.length:=ak ..;refine⟨c,ae.length,by rw[<- dl];rfl,by exact aL few (by decide),⟨by rw[dl];lia,by rw[dl];lia⟩,?_⟩;refine oR (λk o=>∃(pl:List (Option Nat))(x:OT),o=[.fz (.int c),.fz (BW ae),.fz (.lst ((jQ c ae.length).map L2.T.int)),.l1 (pl.map dT),x]/\pl.length=k/\∀(i:Nat)(d:Option Nat)(ds:List LD),i<k->pl[i]?=some d->ae[i]?=some ds->Ah d ds.length=true) ⟨[],.und,rfl,rfl,λi d ds z=>absurd z (WZ _)⟩ ?_ ?_
 .rintro k _ hk ⟨pl,x,rfl,l,h⟩;have hk:k<ae.length:=by rw[dl]at hk;lia
  have ek:=aj hk;have kL:ixT (ae.map λds=>L2.T.lst (ds.map ldT)) (k:Nat)=some (.lst (ae[k].map ldT)):=eE ek;have lm:(pl.map dT).length<sizeLine:=by rw[ak];exact aR (show _<1000 by lia) (by decide)
  have s0:=lF c k;refine⟨_,kL,?_⟩;by_cases e:ae[k].length=0
  .refine swT (Zs (by rw[ak];lia)) ⟨lm,pl++[none],.fz (.int (k:Nat)),by rw[bf];rfl,by simp[l],PlD.snoc h l ek (Zs e)⟩
  .have p0:(0:Int)<(ae[k].map ldT).length:=by rw[ak];lia
   refine swF (Zp (by rw[ak];lia)) ⟨_,cZ (k:=k) hk,_,kL,p0,lm,?_⟩;have a0:=Z3 (strm c k) (show((ae[k].map ldT).length:Int)≠0 by exact WU p0);have a1:=YY (strm c k) p0;obtain⟨n,en⟩:=Zxu a0;refine⟨pl++[some n],.fz (.int (k:Nat)),?_,by simp[l],PlD.snoc h l ek (Zs ?_)⟩
   .rw[bf];show _=[_,_,_,OT.l1 (pl.map dT++[L2.T.int (n:Nat)]),_];rw[<- en]
    rfl
   .rw[ak]at a1 en;lia
 .rintro _ ⟨pl,x,rfl,l,h⟩;have l:pl.length=ae.length:=by rw[l];exact dl
  exact q pl ⟨l,λk d ds e1 e2=>h k d ds (by rw[dl];have:=(ao.mp e1).1;lia) e1 e2⟩
open Rw (sg fJ eF bU fu fQ Big)
def Rz(n d:Nat)(r:Rat):Prop:=r.num.natAbs<=10^n/\r.den<=10^d
def afc{n d:Nat}{a b:Int}(hb:0<b)(h1:a.natAbs<=10^n)(h2:b.toNat<=10^d):Rz n d (Rat.divInt a b):=by
 obtain⟨x,y⟩:=div_pos (a:=a) hb;exact⟨aL y h1,aL x h2⟩
def Rz.mul{n d n' d':Nat}{a b:Rat}(ha:Rz n d a)(hb:Rz n' d' b):Rz (n+n') (d+d') (a*b):=by
 have e:a*b=Rat.divInt (a.num*b.num) (a.den*b.den):=by rw[<- QY,rd,rd]
 have p:(0:Int)<(a.den:Int)*b.den:=XZ (by have:=a.den_pos;lia) (by have:=b.den_pos;lia);rw[e];refine afc p ?_ ?_
 .rw[VU,UQ];exact VX ha.1 hb.1
 .rw[<- JP,Int.toNat_natCast,UQ];exact VX ha.2 hb.2
def afi{n:Nat}{i:Int}(h:i.natAbs<=10^n)(hn:n<=2400):Bd i:=Y3 (aL h (XU (by decide) hn)) (by decide +kernel)
def Rz.bq{n d:Nat}{r:Rat}(h:Rz n d r)(hn:n<=2400)(hd:d<=2400):Bq r:=⟨afi h.1 hn,afi (by rw[XT];exact h.2) hd⟩
def Rz.dd{n d n' d':Nat}{a b:Rat}(ha:Rz n d a)(hb:Rz n' d' b)(h:d+d'<=2400):Bd ((a.den:Int)*b.den):=afi (n:=d+d') (by
 rw[VU,XT,XT,UQ];exact VX ha.2 hb.2) h
def Om{r:Rat}{A:Nat}(h1:r<=(A:Rat))(h2 : -(A:Rat)<=r):r.num.natAbs<=A*r.den:=by
 have a:=(Rat.le_iff r (A:Rat)).mp h1;have b:=(Rat.le_iff (-(A:Rat)) r).mp h2;have a:r.num*((1:Nat):Int)<=(A:Int)*(r.den:Int):=a;have b : -(A:Int)*(r.den:Int)<=r.num*((1:Nat):Int):=b;have c:((A*r.den:Nat):Int)=(A:Int)*r.den:=JP ..;rw[Int.neg_mul]at b;omega
structure OfB(m PN PD CQ:Nat)(o:cg):Prop where
 pn:o.pay.num.natAbs<=PN
 pd:o.pay.den<=PD
 cq:∃q:Nat,0<q/\q<=CQ/\∀w∈o.ways,w.2.den ∣ q
 nd:(o.ways.map (·.1)).Nodup
 few:o.ways.length<=1000
 lt:∀w∈o.ways,w.1<m
 nn:∀w∈o.ways,0<=w.2
 one:Jp o.ways<=1
theorem A_:∀ws:List (Nat×Rat),Jp ws=dw ws λ_=>1
 |[]=>rfl
 |w::ws=>by rw[DR,fP,A_ ws,Rat.mul_one]
def OfB.le1{m PN PD CQ:Nat}{o:cg}(h:OfB m PN PD CQ o){w:Nat×Rat}(hw:w∈o.ways):w.2<=1:=by
 have:=rG h.nn hw;rw[<- A_]at this;exact QR this h.one
def aip{m mo:Nat}{ae:List (List LD)}{off:List (List cg)}(hd:DSk m mo ae)(ho:Cg ae off):∀ds∈off,∀o∈ds,OfB m (10^30) 1000 4000 o:=λos nV o hmo=>by
 obtain⟨k,ek⟩:=aV nV;have lk:k<ae.length:=by rw[<- ho.len];exact(ao.mp ek).1
 obtain⟨tl,_,rfl⟩:=ho.at_ k _ os (aj lk) ek;obtain⟨p,hp,rfl⟩:=YV.mp hmo;have lk:=hd.ok _ (aU lk) p.2 (UX hp).2;obtain⟨q,q0,q1,hq⟩:=lk.all;have j:=LC q0 hq;have f1:=j.few;have f2:=lk.few;exact⟨lk.pay.num,lk.pay.den,⟨q,q0,q1,j.dn⟩,j.nd,by show(vd p.2.prs).length<=1000;lia,j.lt,j.nn,by
  show Jp (vd p.2.prs)<=1;rw[A_,j.sum,Ak,lk.one];exact UT⟩
open Rw (sg fJ eF bU fu fQ Big)
def agE{ws:List (Nat×Rat)}(nn:∀w∈ws,0<=w.2)(j:Nat):0<=jh ws j/\jh ws j<=Jp ws:=by
 induction ws with
 |nil=>exact⟨UT,UT⟩
 |cons w ws ih =>
  have:=nn w (aO ..);obtain⟨a,b⟩:=ih λx hx=>nn x (aJ _ hx);rw[DR];show 0<=(if w.1=j then w.2 else 0)+jh ws j/\(if w.1=j then w.2 else 0)+jh ws j<=_;split<;>grind
def YG{q:Nat}(hq:0<q){ws:List (Nat×Rat)}(h:∀w∈ws,w.2.den ∣ q)(j:Nat):(jh ws j).den ∣ q:=by
 induction ws with
 |nil=>exact U1 _
 |cons w ws ih =>
  refine IK hq ?_ (ih λx hx=>h x (aJ _ hx));split
  .exact h w (aO ..)
  .exact U1 _
abbrev qO(c:Option cg):Nat:=iQ 1 ((rY c).map (·.2))
def CoB(m PN PD CQ:Nat)(c:Option cg):Prop:=∀o,c=some o->OfB m PN PD CQ o
def CoB.sh{s:Rat}{m PN PD CQ:Nat}{c:Option cg}(h:CoB m PN PD CQ c):ShB s m (rY c):=by
 cases c with
 |none=>exact⟨λ_ z=>(nomatch z),λ_ z=>(nomatch z),by show(0:Rat)<=1;decide⟩
 |some o=>have b:=h o rfl;exact⟨b.lt,b.nn,b.one⟩
def abd(c:Option cg):0<qO c:=m9 _ UP
def afw{c:Option cg}{w:Nat×Rat}(hw:w∈rY c):w.2.den ∣ qO c:=(m7 _).2 _ (YV.mpr ⟨w,hw,rfl⟩)
def CoB.q{m PN PD CQ:Nat}{c:Option cg}(h:CoB m PN PD CQ c)(h1:1<=CQ):qO c<=CQ:=by
 cases c with
 |none=>exact h1
 |some o =>
  obtain⟨q,q0,q1,hq⟩:=(h o rfl).cq;refine aL (UY q0 (sZ _ (U1 _) λr hr=>?_)) q1;obtain⟨w,hw,rfl⟩:=YV.mp hr;exact hq w hw
theorem wJ:((1:Nat):Rat)=1:=rfl
def agb{s:Rat}{m PN PD CQ:Nat}{cs:List (Option cg)}{i j:Nat}(s0:0<=s)(s1:s<1)(h:CoB m PN PD CQ (cs.getD i none)):(gG s cs i j).den ∣ s.den*qO (cs.getD i none)/\(gG s cs i j).num.natAbs<=1*(gG s cs i j).den:=by
 have sh:=CoB.sh (s:=s) h;obtain⟨a,b⟩:=agE sh.nn j;have b1:=QR b sh.one;have c1:s*jh (rY (cs.getD i none)) j<=1:=by
  have:=Zzs b1 s0
  grind
 have c0:0<=s*jh (rY (cs.getD i none)) j:=Rat.mul_nonneg s0 a;have sd:=s.den_pos;have qp:=abd (cs.getD i none);refine⟨?_,Om ?_ ?_⟩
 .unfold gG;rw[Rat.sub_eq_add_neg];refine IK (QP sd qp) ?_ ?_
  .split<;>exact U1 _
  .rw[acM];exact den_mul sd qp (Nat.dvd_refl _) (YG qp (λw hw=>afw hw) j)
 .unfold gG;rw[wJ];split<;>grind
 .unfold gG;rw[wJ];split<;>grind
def Wb{s:Rat}(hs:Shr s):Rz 2 2 s:=by
 have a:=Om (r:=s) (A:=1) (Rat.le_of_lt hs.hi) (by have:=hs.lo;rw[wJ];grind);have:=hs.den;exact⟨aL a (by lia),this⟩
def ajf{m PN PD CQ:Nat}{o:cg}(h:OfB m PN PD CQ o)(hc:CQ<=10^4){w:Nat×Rat}(hw:w∈o.ways):Rz 4 4 w.2:=by
 obtain⟨q,q0,q1,hq⟩:=h.cq;have d:=UY q0 (hq w hw);have a:=Om (r:=w.2) (A:=1) (h.le1 hw) (by have:=h.nn w hw;rw[wJ];grind);exact⟨aL a (by lia),by lia⟩
def alA{m PN PD CQ:Nat}{off:List (List cg)}{pl:List (Option Nat)}(ob:∀ds∈off,∀o∈ds,OfB m PN PD CQ o):∀c∈chO off pl,CoB m PN PD CQ c:=λc hc o eo=>by
 obtain⟨p,hp,rfl⟩:=YV.mp hc;cases e:p.1 with
 |none=>rw[e]at eo;cases eo
 |some d =>
  rw[e]at eo;have eo:(off.getD p.2 [])[d]?=some o:=eo;by_cases l:p.2<off.length
  .rw[au,aj l]at eo;exact ob _ (aU l) o (aC eo)
  .have:off[p.2]?=none:=aM (VS l);rw[au,this]at eo;cases eo
abbrev pT(a b:Int):T:=.tup [.int a,.int b]
def div_eq{a b c d:Int}(hb:0<b)(hd:0<d):Rat.divInt a b=Rat.divInt c d↔a*d=c*b:=JJ (WU hb) (WU hd)
def ana(s:Rat)(y:Nat->Rat)(d:LD):Rat:=d.pay+s*dw d.prs y
def afA{y:Nat->Rat}{C:Rat}(hC:0<=C){ws:List (Nat×Rat)}(nn:∀w∈ws,0<=w.2)(one:(dw ws λ_=>1)<=1)(hi:∀k,y k<=C)(lo:∀k,-C<=y k):dw ws y<=C/\-C<=dw ws y:=by
 have a:=VJ (M:=C) (x:=y) (ws:=ws) λw hw=>⟨nn w hw,hi w.1⟩;have b:=VJ (M:=C) (x:=λk=>-(y k)) (ws:=ws) λw hw=>⟨nn w hw,by have:=lo w.1;grind⟩;rw[aaG]at b;rw[<- A_]at one;have c:Jp ws*C<=1*C:=Rat.mul_le_mul_of_nonneg_right one hC;constructor<;>grind
def V0{ae:List (List LD)}{off:List (List cg)}(ho:Cg ae off){pl:List (Option Nat)}(h:PlD ae pl):PlT off pl:=by
 refine⟨by rw[h.len,ho.len],λk d os e1 e2=>?_⟩;have lk:k<ae.length:=by rw[<- ho.len];exact(ao.mp e2).1
 have ek:=aj lk;obtain⟨tl,jn,rfl⟩:=ho.at_ k _ os ek e2;have:=h.ok k d _ e1 ek;rw[ak,VV,jn,Up];exact this
open Rw (sg fJ eF bU fu fQ Big sz)
def anx(s:Rat)(y:Nat->Rat)(ae:List (List LD))(pl:List (Option Nat))(k:Nat):Rat:=match(pl.getD k none).bind λd=>(ae.getD k [])[d]? with
 |none=>0
 |some d=>ana s y d
def adF{ae:List (List LD)}{off:List (List cg)}(ho:Cg ae off)(k d:Nat):∃t:Str,(off.getD k [])[d]?=((ae.getD k [])[d]?).map (abz t):=by
 by_cases hk:k<ae.length
 .have e1:=aj hk;have e2:=aj (show k<off.length by rw[ho.len];exact hk);obtain⟨tl,l,eo⟩:=ho.at_ k _ _ e1 e2;rw[au,au,e1,e2];show ∃t,(off[k]'(by rw[ho.len];exact hk))[d]?=(ae[k][d]?).map (abz t);rw[eo,aq];by_cases hd:d<ae[k].length
  .refine⟨tl[d]'(by lia),?_⟩;rw[aj (show d<(tl.zip ae[k]).length by rw[VV];lia),aj hd,List.getElem_zip]
   rfl
  .exact⟨⟨#[]⟩,by rw[aM (show(tl.zip ae[k]).length<=d by rw[VV];lia),aM (show ae[k].length<=d by exact VS hd)];rfl⟩
 .have e1:ae[k]?=none:=aM (VS hk);have e2:off[k]?=none:=aM (by rw[ho.len];exact VS hk);exact⟨⟨#[]⟩,by rw[au,au,e1,e2];rfl⟩
open Rw (sg fJ eF bU fu fQ Big vr)
open Rw (sg fJ eF bU fu fQ FQ Big)
def Nu(f:Nat->Nat->Rat)(m:Nat):List (List Rat):=(List.range m).map λi=>(List.range m).map λj=>f i j
def Ab(f:Nat->Nat->Rat)(m:Nat):(Nu f m).length=m:=by unfold Nu;rw[ak,WJ]
def abh{f:Nat->Nat->Rat}{m:Nat} : ∀r∈Nu f m,r.length=m:=λr hr=>by
 obtain⟨i,_,rfl⟩:=YV.mp hr;rw[ak,WJ]
abbrev Vf(f:Nat->Nat->Rat)(b:Nat->Rat)(m:Nat):List (List Rat):=X6 (Nu f m) ((List.range m).map b)
def vp(f:Nat->Nat->Rat)(b:Nat->Rat)(m:Nat):(Vf f b m).length=m:=by rw[TZ,Ab,ak,WJ,Up]
def Nb{f:Nat->Nat->Rat}{b:Nat->Rat}{m i:Nat}(h:i<m):(Vf f b m)[i]?=some (((List.range m).map λj=>f i j)++[b i]):=by
 unfold Vf Nu;rw[Zyt,aq,VQ h,aq,VQ h]
 rfl
def Gw{f:Nat->Nat->Rat}{b:Nat->Rat}{m:Nat}{r:List Rat}(hr:r∈Vf f b m):∃i,i<m/\r=((List.range m).map λj=>f i j)++[b i]:=by
 obtain⟨i,e⟩:=aV hr;have hi:i<m:=by have:=(ao.mp e).1;rw[vp]at this;exact this
 rw[Nb hi]at e;exact⟨i,hi,(Option.some.inj e).symm⟩
def O1{f:Nat->Nat->Rat}{b:Nat->Rat}{m i:Nat}(y:Nat->Rat):sg (λj=>(((List.range m).map λj=>f i j)++[b i]).getD j 0*y j) m=sg (λj=>f i j*y j) m/\(((List.range m).map λj=>f i j)++[b i]).getD m 0=b i:=by
 have l:((List.range m).map λj=>f i j).length=m:=by rw[ak,WJ]
 refine⟨bU λj hj=>?_,?_⟩
 .rw[au,aF (by rw[l];exact hj),aq,VQ hj];rfl
 .rw[au,aD (by rw[l];exact aG _),l,JU];rfl
def ahU{f:Nat->Nat->Rat}{b y:Nat->Rat}{m:Nat}(h:∀r∈Vf f b m,sg (λj=>r.getD j 0*y j) m=r.getD m 0):∀i,i<m->sg (λj=>f i j*y j) m=b i:=λi hi=>by
 have:=h _ (aC (Nb hi));rw[(O1 y).1,(O1 y).2]at this;exact this
def ajs{f:Nat->Nat->Rat}{b:Nat->Rat}{m A Q:Nat}{q:Nat->Nat}(few:m<=100)(hA:1<=A)(q0:∀i,i<m->0<q i/\q i<=Q)(hc:∀i j,i<m->j<m->(f i j).den ∣ q i/\(f i j).num.natAbs<=A*(f i j).den)(hb:∀i,i<m->(b i).den ∣ q i/\(b i).num.natAbs<=A*(b i).den)(hQ:1<=Q)(mb:(2*m*(A*Q))^m<=NN)(nn:A*Q<=NN)(inj:∀x:Nat->Rat,(∀i,i<m->sg (λj=>f i j*x j) m=0)->∀j,j<m->x j=0):Sys (Vf f b m) (A*Q):=by
 have all:∀i,i<m->∀c∈((List.range m).map λj=>f i j)++[b i],c.den ∣ q i/\c.num.natAbs<=A*c.den:=λi hi c cm=>by
  rcases Y1.mp cm with z|z
  .obtain⟨j,hj,rfl⟩:=YV.mp z;exact hc i j hi (List.mem_range.mp hj)
  .rw[YR.mp z];exact hb i hi
 refine⟨λr hr=>?_,by rw[vp];exact few,λr hr=>?_,λr hr c hm=>?_,QP hA hQ,by rw[vp];exact mb,nn,?_⟩
 .obtain⟨i,hi,rfl⟩:=Gw hr;rw[vp,aA,ak,WJ];rfl
 .obtain⟨i,hi,rfl⟩:=Gw hr;exact(ac5 hA (q0 i hi).1 (all i hi)).le (Zzr _ (q0 i hi).2)
 .obtain⟨i,hi,rfl⟩:=Gw hr;obtain⟨a,c⟩:=all i hi c hm;exact bdN (aL c (aL (Zzr _ (aL (UY (q0 i hi).1 a) (q0 i hi).2)) nn))
 .rw[vp];intro x h0 hx;refine inj x λi hi=>?_;have:=hx _ (aC (Nb hi));have e:sg (λj=>(((List.range m).map λj=>f i j)++[b i]).getD j 0*x j) (m+1)=sg (λj=>(((List.range m).map λj=>f i j)++[b i]).getD j 0*x j) m+_*x m:=rfl;rw[e,h0 _ (aG _),Rat.mul_zero,QQ,(O1 x).1]at this;exact this
theorem aeC{f:Nat->Rat} : ∀{n:Nat},(∀i,i<n->0<=f i)->0<=sg f n/\(sg f n=0->∀i,i<n->f i=0)
 |0,_=>⟨UT,λ_ i z=>absurd z (WZ _)⟩
 |n+1,h=>by
  obtain⟨a,b⟩:=aeC (f:=f) (n:=n) λi hi=>h i (WV _ hi);have c:=h n (X0 _);show 0<=sg f n+f n/\(sg f n+f n=0->_);refine⟨by grind,λe i hi=>?_⟩;have e1:sg f n=0:=by grind
  have e2:f n=0:=by grind
  by_cases z:i=n
  .rw[z];exact e2
  .exact b e1 i (XX (UV hi) z)
def agq(f:Nat->Nat->Rat)(x y:Nat->Rat)(m:Nat):sg (λj=>y j*sg (λi=>f i j*x i) m) m=sg (λi=>x i*sg (λj=>f i j*y j) m) m:=by
 rw[bU (g:=λj=>sg (λi=>y j*(f i j*x i)) m) λj _=>(eF _ _ _).symm,bU (f:=λi=>x i*sg (λj=>f i j*y j) m) (g:=λi=>sg (λj=>x i*(f i j*y j)) m) λi _=>(eF _ _ _).symm,FQ (λj i=>y j*(f i j*x i))];exact bU λi _=>bU λj _=>by grind
def abM{s:Rat}{cs:List (Option cg)}(s0:0<=s)(s1:s<1)(h:∀i,i<cs.length->ShB s cs.length (rY (cs.getD i none)))(x:Nat->Rat)(hx:∀j,j<cs.length->sg (λi=>gG s cs i j*x i) cs.length=0):∀i,i<cs.length->x i=0:=by
 have e:=agq (gG s cs) x (λj=>if 0<=x j then 1 else -1) cs.length;rw[bU (g:=λ_=>0) λj hj=>by rw[hx j hj,Rat.mul_zero],fu]at e;have t:∀i,i<cs.length->0<=x i*sg (λj=>gG s cs i j*(if 0<=x j then 1 else -1)) cs.length/\(x i*sg (λj=>gG s cs i j*(if 0<=x j then 1 else -1)) cs.length=0->x i=0):=λi hi=>by
  have b:=h i hi;rw[afP hi b.lt];obtain⟨b1,b2⟩:=afA (y:=λj=>if 0<=x j then(1:Rat)else -1) (C:=1) (by decide) b.nn (by rw[<- A_];exact b.one) (λk=>by split<;>decide) λk=>by split<;>decide
  generalize dw (rY (cs.getD i none)) (λj=>if 0<=x j then(1:Rat)else -1)=q at *;have k1:=Zzs b1 s0;have k2:=Zzs b2 s0;by_cases z:0<=x i
  .rw[ZY z];have m:0<1-s*q:=by grind
   refine⟨Rat.mul_nonneg z (by grind),λe=>?_⟩;rcases Rat.mul_eq_zero.mp e with e|e
   .exact e
   .grind
  .rw[ZZ z];have m:0<1+s*q:=by grind
   have dn:0 <= -(x i):=by grind
   have g:=Rat.mul_nonneg dn (show 0<=1+s*q by grind);refine⟨by grind,λe=>?_⟩;rcases Rat.mul_eq_zero.mp e with e|e
   .exact e
   .grind
 exact λi hi=>(t i hi).2 ((aeC λj hj=>(t j hj).1).2 e.symm i hi)
open Rw (sg fJ eF bU fu fQ Big)
def Dq:ST:=λts q=>∃(f:Nat->Nat->Rat)(m:Nat),ts=[.lst ((rowsOf f m).map .lst)]/\m<=100/\q (.l1 ((Nu (λj i=>f i j) m).map yG))
def Yl(T:Tx D)(F:Fu yt u_ f fd):FT 1 f fd oJ Dq:=by
 refine F.okT XR λai A outer s H E hr nd=>?_;refine⟨_,(bG (bM (Wm (bF u_) xq xq "column" (dG T.fj (bw (bL cH T.dg WP (bw (qv 0) bA)) bA)) Zz cJ (Oo (bF u_) ("column"::xq) ("column"::xq) ["row"] (cR (qv 1)) (g_ (i:=0)) cJ (bI (qv 0) (qv 1)))))),?_⟩;rintro _ R ⟨f,m,rfl,m1,q⟩;have lr:((rowsOf f m).map L2.T.lst).length=m:=by rw[ak,RW]
 have sz:(100:Nat)<=sizeLine:=by decide
 have er:(rowsOf f m).map L2.T.lst=(List.range m).map λi=>yG ((List.range m).map λj=>f i j):=by
  unfold rowsOf;rw[WS];refine UU λi _=>?_;show L2.T.lst _=L2.T.lst _;rw[WS];rfl
 refine⟨⟨by rw[lr];lia,by rw[lr];lia⟩,?_⟩;rw[show(((((rowsOf f m).map L2.T.lst).length:Nat):Int)).toNat=m by rw[lr];rfl];refine⟨by rw[rng,ak,WJ];exact aL m1 sz,Gf (λj=>yG ((List.range m).map λi=>f i j)) m (λj hj N M hN=>⟨by rw[lr];exact aL m1 sz,?_⟩) ?_⟩
 .show jK _ _ _ _ ((rowsOf f m).map L2.T.lst) _;rw[er];refine comp_map (λi=>yG ((List.range m).map λj=>f i j)) (λi=>frR (f i j)) (List.range m) (λi hi N M hN=>⟨_,eE (h:=frR) (show((List.range m).map λj=>f i j)[j]?=some (f i j)by rw[aq,VQ hj];rfl),hN⟩) ?_;rw[show((List.range m).map λi=>frR (f i j))=((List.range m).map λi=>f i j).map frR by rw[WS];rfl];exact hN
 .rw[show((List.range m).map λj=>yG ((List.range m).map λi=>f i j))=(Nu (λj i=>f i j) m).map yG by unfold Nu;rw[WS];rfl];exact q
abbrev oneAt(st:Nat)(j:Nat):Rat:=if j=st then 1 else 0
def aay(s:Rat)(cs:List (Option cg))(st:Nat)(x:Nat->Rat):Prop:=∀j,j<cs.length->sg (λi=>gG s cs i j*x i) cs.length=oneAt st j
structure ViB(s:Rat)(cs:List (Option cg))(st N:Nat):Prop where
 bs:Bq s
 ways:∀o∈cs,WyB s cs.length (rY o)
 sys:Sys (Vf (λj i=>gG s cs i j) (oneAt st) cs.length) N
def vV(D:Adr):ST:=λts R=>∃(s:Rat)(ns:Θ)(off:List (List cg))(pl:List (Option Nat))(st N:Nat),ts=[hlT D s ns off,.lst (pl.map dT),.int (st:Nat)]/\Kq ns off/\PlT off pl/\off.length<=100/\st<off.length/\ViB s (chO off pl) st N/\∀x:Nat->Rat,aay s (chO off pl) st x->(∀i,i<off.length->FnB ((2*off.length*N)^off.length) (x i))->R (.l1 ((List.range off.length).map λi=>frR (x i)))
def Io(T:Tx D)(sV:gT 4 iG fD (qL D))(eN:gI 2 D.Hall_check_room cT (qU D))(cu:gI 1 D.Hall_size dJ (gq D))(gD:gT 4 j5 fY (nR D))(kY:gT 4 oA jE tu)(q_:gT 1 yt oJ Dq)(iH:gT 8 lK gP oW)(F:Fu jd iJ f fd):FT 9 f fd fK (vV D):=by
 refine F.okT lE λai A outer s H E hr nd=>?_;refine⟨_,(bC (lN (bH sV (bw (qv 0) (bw (qv 1) bA))))
  (bC (lN (BK (qv 0) T.gJ T.kh eN (bw (qv 2) bA) (KS:=iV)))
  (bC (sS (bF iJ) jM jM ["room"] (dG T.fj (bw (pO (qv 0) T.gJ T.jz cu (KS:=iV)) bA)) (g_ (i:=0)) cJ (Wx (b_ (go_eq hr.units) (qv 0) (qv 3)) (jY T.yP T.qM) (jY T.i_ T.gQ)) (jC (i:=3) lE.nd rfl (Or.inl rfl)))
  (bG (bM (bH iH (bw (bH q_ (bw (bH kY (bw (rT (Fm:=Fam D) (λC h=>⟨T.cl C h,T.I9 C h⟩) (qv 0)) (bw (bH gD (bw (qv 0) (bw (qv 1) bA))) bA))) bA)) (bw (qv 3) bA)))))))),?_⟩
 rintro _ R ⟨s,ns,off,pl,st,N,rfl,h,hp,few,bj,hv,ok⟩;have cl:=Ue hp;have nl:=h.len;refine⟨_,_,_,_,rfl,h,hp,⟨rfl,rfl⟩,_,_,_,st,rfl,by exact aR bj (WG nl),⟨rfl,rfl⟩,_,_,_,rfl,⟨by lia,by lia⟩,by rw[rng,ak,WJ];exact aL (show ns.length<=100 by lia) (by decide),?_⟩;refine Gf (λj=>frR (oneAt st j)) ns.length (λj hj N M hN=>?_) ?_
 .unfold oneAt at hN;by_cases e:j=st
  .rw[ZY e]at hN;exact swT (Zs (by lia)) hN
  .rw[ZZ e]at hN;exact swF (Zp (by lia)) hN
 .refine⟨Ai D,_,rfl,_,_,_,_,rfl,h,hp,s,chO off pl,rfl,by exact aL (WG cl) few,hv.bs,hv.ways,gG s (chO off pl),(chO off pl).length,rfl,by exact aL (WG cl) few,Nu (λj i=>gG s (chO off pl) i j) (chO off pl).length,(List.range (chO off pl).length).map (oneAt st),N,?_,by rw[ak,WJ,Ab],by rw[Ab];exact abh,hv.sys,?_⟩
  .show[_,L2.T.lst ((List.range ns.length).map λj=>frR (oneAt st j))]=_;rw[WS,cl,show ns.length=off.length by exact Eq.symm nl]
   rfl
  .rw[Ab,cl];exact λy h1 h2=>ok y (by rw[<- cl]at h1;exact ahU h1) h2
def Hj(T:Tx D)(F:Fun K vO xR qy f fd):dI P w K mg base CX0 1 f fd jr (Yp D.NoRoom "room"):=by
 refine F.okB Jc ?_ ?_
 .rintro _ _ _ _ ⟨a,v,rfl,_⟩;rfl
 .rintro ai A outer s H _ Q E hr ⟨a,v,rfl,ha,q⟩;refine⟨_,(K5 (PSB.mk (iY (SM T.ib_HallError T.xi_NoRoom (by rfl) T.Em (cA (pv 0) (cA Dp jf)))))
   (RK (PSB.mk (WD (pv 0) (pv 1) rfl)))),?_⟩
  exact⟨_,rfl,a,[_],rfl,ha,by decide,_,rfl,_,rfl,a,D.NoRoom,rfl,ha,T.xs_NoRoom,T.xO,q⟩
inductive RmX(n:Nat):L2.T->Prop
 |kind {t:L2.T} : isW t=some false->RmX n t
 |far {k:Int} : ¬(0<=k/\k<n)->RmX n (.int k)
def uQ(D:Adr):SX:=λts R z=>∃(s:Rat)(ns:Θ)(off:List (List cg))(t:L2.T),ts=[hlT D s ns off,t]/\((∃k:Nat,t=.int k/\k<ns.length/\R (.fz .non))\/(RmX ns.length t/\z D.NoRoom ["room"] [t]))
def GJ(T:Tx D)(cG:gT 1 gU fG jg)(cu:gI 1 D.Hall_size dJ (gq D))(qj:OkI P w K mg base CX0 1 D.NoRoom_init jr (Yp D.NoRoom "room"))(F:Fun K kJ j8 iU f fd):dI P w K mg base (CXO P w) 3 f fd cT (spX K (uQ D)):=by
 refine F.okTX oV λai A outer s H E hr nd=>?_;refine⟨_,(bG (cB (QW.qt (jV (dW (dN (bH cG (bw (qv 1) bA)))) (iM (dW (Hl HD uz bx (qv 1) (pO (qv 0) T.gJ T.jz cu (KS:=iV)))))))
  (bG (Gv rfl T.Rt T.xi_NoRoom qj (qv 1)))
  bR)),?_⟩
 rintro _ R Z ⟨s,ns,off,t,rfl,h⟩;rcases h with⟨k,rfl,hk,q⟩|⟨h,q⟩
 .refine⟨_,_,rfl,rfl,⟨rfl,rfl⟩,_,_,_,rfl,?_⟩;show sw (!decide ((k:Int)<(ns.length:Nat))) _ _;rw[Zs (show(k:Int)<(ns.length:Nat)by lia)];exact q
 .cases h with
  |kind e=>exact⟨_,_,rfl,e,q⟩
  |@far k e =>
   refine⟨_,_,rfl,rfl,?_⟩;refine swD (λh0=>⟨⟨rfl,rfl⟩,_,_,_,rfl,?_⟩) λh0=>q;refine swT ?_ q;rw[Zp (λz=>e ⟨h0,z⟩)];rfl
def ux(D:Adr):SX:=λts R z=>uM D ts R z\/qL D ts R
def Fg(T:Tx D)(gC:OkI P w K mg base CX0 1 D.NoPlan_init gK (Yp D.NoPlan "room"))(pA:gT 2 uc oG Ih)(cu:gI 1 D.Hall_size dJ (gq D))(cN:gI 3 D.Hall_offers d_ (qX D))(Nr:gT 2 uc oG M7)(F:Fu iG lJ f fd):dI P w K mg base (CXO P w) 4 f fd fD (spX K (ux D)) :=
 (uX T gC pA cu cN F).or ((yK T Nr cu cN F).wild.imp λvs H Q E hP=>by obtain⟨ts,R,Z,r,h,q,_⟩:=hP;exact⟨ts,R,r,h,q⟩)
def uD(D:Adr):SX:=λts _ z=>∃(s:Rat)(ns:Θ)(off:List (List cg))(v u:L2.T),ts=[hlT D s ns off,v,u]/\Kq ns off/\((∃w,PlX off v w/\z D.NoPlan ["room"] [w])\/∃pl:List (Option Nat),v=.lst (pl.map dT)/\PlT off pl/\RmX ns.length u/\z D.NoRoom ["room"] [u])
def Es(T:Tx D)(mV:ag0 P w K mg base 4 iG fD (ux D))(kO:OkI P w K mg base (CXO P w) 3 D.Hall_check_room cT (spX K (uQ D)))(cu:gI 1 D.Hall_size dJ (gq D))(gD:gT 4 j5 fY (nR D))(kY:gT 4 oA jE tu)(q_:gT 1 yt oJ Dq)(iH:gT 8 lK gP oW)(F:Fu jd iJ f fd):dI P w K mg base (CXO P w) 9 f fd fK (spX K (uD D)):=by
 refine F.okTX lE λai A outer s H E hr nd=>?_;refine⟨_,(bC (aad mV (bw (qv 0) (bw (qv 1) bA)))
  (bC (ZW (qv 0) T.gJ T.kh kO (bw (qv 2) bA) (KS:=iV))
  (bC (sS (bF iJ) jM jM ["room"] (dG T.fj (bw (pO (qv 0) T.gJ T.jz cu (KS:=iV)) bA)) (g_ (i:=0)) cJ (Wx (b_ (go_eq hr.units) (qv 0) (qv 3)) (jY T.yP T.qM) (jY T.i_ T.gQ)) (jC (i:=3) lE.nd rfl (Or.inl rfl)))
  (bG (bM (bH iH (bw (bH q_ (bw (bH kY (bw (rT (Fm:=Fam D) (λC h=>⟨T.cl C h,T.I9 C h⟩) (qv 0)) (bw (bH gD (bw (qv 0) (bw (qv 1) bA))) bA))) bA)) (bw (qv 3) bA)))))))),?_⟩
 rintro _ R Z ⟨s,ns,off,v,u,rfl,h,hc⟩;rcases hc with⟨w,hp,q⟩|⟨pl,rfl,hp,hu,q⟩
 .exact .inl ⟨s,ns,off,v,w,rfl,h,hp,q⟩
 .exact .inr ⟨s,ns,off,pl,rfl,h,hp,⟨rfl,rfl⟩,s,ns,off,u,rfl,.inr ⟨hu,q⟩⟩
def Jo(D:Adr):ST:=λts q=>∃(s:Rat)(ns:Θ)(off:List (List cg))(v u:L2.T),ts=[hlT D s ns off,v,u]/\Kq ns off/\((∃w,PlX off v w/\q (.fz (.tup [.str "plan",w])))\/∃pl:List (Option Nat),v=.lst (pl.map dT)/\PlT off pl/\RmX ns.length u/\q (.fz (.tup [.str "room",u])))
def UW(T:Tx D)(o9:ag0 P w K mg base 9 jd fK (uD D))(F:Fu zy CN f fd):FT 10 f fd o_ (Jo D):=by
 refine F.ok I_ (λvs H Q E h=>?_) (λai A outer s H vs Q E hr h=>?_)
 .obtain⟨ts,R,r,⟨_,_,_,_,_,rfl,_⟩,_⟩:=h;exact r.len
 .obtain⟨ts,R,r,⟨s',ns,off,v',w',rfl,hh,hp⟩,k⟩:=h;obtain⟨o,v,u,rfl⟩ : ∃o v u,vs=[o,v,u]:=by
   match vs,r.len with
   |[o,v,u],_=>exact⟨o,v,u,rfl⟩
  refine⟨_,(wN (Yv (i:=3) I_.nd rfl rfl (by rfl) T.Jf T.aaz T.aa9 (by rfl) T.Rt T.Y9 T.aaV rfl rfl rfl (λ_ _ _ HF=>(pZ (iY (Sq o9 hr.md (by rfl) HF (cA (pv 0) (cA (pv 1) (cA (pv 2) jf)))))))
    (λ_ _=>(pZ (zO (Gb (cA Dp (cA (QJ (K':=K) rfl (pv 3) rfl) jf)))))) (λ_ _=>(pZ (zO (Gb (cA Dp (cA (QJ (K':=K) rfl (pv 3) rfl) jf)))))))
   (pZ (zO (Gb (cA Dp (cA Y6 jf)))))),?_⟩
  refine Y7 λR1 hR1=>?_;have jp:∀(C:Addr)(b9:Str)(t:L2.T)(H':Hp)(d a:Addr)(x:V),R (.fz (.tup [.str b9,t]))->Same H H'->H' d=some (.xd [("room",x)])->Rep K H' x t->H' a=none->∀(tk:Addr)(H5:Hp),Same (upd H' a (XO a C (some d))) H5->upd H' a (XO a C (some d)) tk=none->H5 tk=some (.tup [.str b9,x])->Q (.ref tk) H5:=λC b9 t H' d a x q S hx ru ha tk H5 S5 _ et =>
   k H5 (.ref tk) _ q (S.trans ((Same.upd ha).trans S5)) (NR.fz (by
    rw[Gd];exact .tup (.inl (Rd.of et)) (.cons (.str _) (.cons (ru.same ((Same.upd ha).trans S5)) .nil))))
  refine agY ⟨λC d σ H'=>σ=[some o,some v,some u,none]/\∃(C' d':Addr)(b9:Str)(t:L2.T)(x:V),C=.ref C'/\d=some d'/\Same H H'/\H' d'=some (.xd [("room",x)])/\Rep K H' x t/\R (.fz (.tup [.str b9,t]))/\((C'=D.NoPlan/\b9="plan")\/(C'=D.NoRoom/\b9="room")),?_,?_⟩
  .refine⟨_,rfl,_,rfl,_,rfl,_,λ_=>False,λC ks us=>∃(b9:Str)(t:L2.T),ks=(["room"] : Θ)/\us=[t]/\R (.fz (.tup [.str b9,t]))/\((C=D.NoPlan/\b9="plan")\/(C=D.NoRoom/\b9="room")),r,⟨s',ns,off,v',w',rfl,hh,?_⟩,(λ_ _ _ z=>z.elim),?_⟩
   .rcases hp with⟨w,hp,q⟩|⟨pl,e,hp,hu,q⟩
    .exact .inl ⟨w,hp,"plan",w,rfl,rfl,q,.inl ⟨rfl,rfl⟩⟩
    .exact .inr ⟨pl,e,hp,hu,"room",w',rfl,rfl,q,.inr ⟨rfl,rfl⟩⟩
   rintro H' C d ks us cy ⟨b9,t,rfl,rfl,q,hc⟩ S hx ru
   match us,ru with
   |[x],.cons ru .nil=>exact⟨rfl,C,d,b9,t,x,rfl,rfl,S,hx,ru,q,hc⟩
  .rintro _ _ σ' H' ⟨rfl,C,d,b9,t,x,rfl,rfl,S,hx,ru,q,hc⟩;rcases hc with⟨rfl,rfl⟩|⟨rfl,rfl⟩
   .refine⟨D.NoPlan,rfl,.inl ⟨T.sm_NoPlan,λa ha=>?_⟩⟩;exact⟨_,rfl,a,D.NoPlan,d,_,x,rfl,bY,Same.upd ha _ _ hx,T.xk_NoPlan,T.hd_NoPlan,T.vX,rfl,(show 2<=sizeLine by decide),jp D.NoPlan "plan" t H' d a x q S hx ru ha⟩
   .refine⟨D.NoRoom,rfl,.inr ⟨T.o_NoPlan,T.sm_NoRoom,λa ha=>?_⟩⟩;exact⟨_,rfl,a,D.NoRoom,d,_,x,rfl,bY,Same.upd ha _ _ hx,T.xk_NoRoom,T.hd_NoRoom,T.xO,rfl,(show 2<=sizeLine by decide),jp D.NoRoom "room" t H' d a x q S hx ru ha⟩
def akR{α:Type}(xs:List α):(gR xs (some 1) none).length=xs.length-1:=by
 show(gR xs (some ((1:Nat):Int)) none).length=_;unfold gR;rw[HT.xZ,HT.Qs,aY,US];lia
def ae9{α:Type}(xs:List α):(gR xs none (some (-1))).length=xs.length-1:=by
 unfold gR;rw[HT.Qs,aY,US];show min ((if(-1:Int)<0 then(-1+(xs.length:Int)).toNat else min (-1:Int).toNat xs.length)-0) (xs.length-0)=_;rw[ZY (by decide)];lia
def aij{off:List (List cg)}{pl:List (Option Nat)}(hp:PlT off pl){j:Nat}{u:L2.T}{es:List cg}(e1:(pl.map dT)[j]?=some u)(e2:off[j]?=some es):Ik u es.length=some true:=by
 rw[aq]at e1;cases e:pl[j]? with
 |none=>rw[e]at e1;cases e1
 |some d =>
  rw[e]at e1;cases e1;cases d with
  |none =>
   have:=of_decide_eq_true (hp.ok j none es e e2);show Ik .non es.length=_;rw[this];rfl
  |some k =>
   have:=of_decide_eq_true (hp.ok j (some k) es e e2);show Ik (.int (k:Nat)) es.length=_;unfold Ik;rw[ZZ (by lia)];refine ZH some ?_;rw[Zs (X9 _),Zs (by lia)];rfl
def Zh(c:Int){m:Nat}(h:0<m):∃k:Nat,k<m/\c%(m:Nat)=(k:Nat):=by
 have a:=Z3 c (show((m:Nat):Int)≠0 by lia);have b:=YY c (show(0:Int)<(m:Nat)by lia);exact⟨(c%(m:Nat)).toNat,by lia,by lia⟩
def Li:ST:=λts q=>∃(c:Int)(pl:List (Option Nat))(ae:List (List LD))(m mo:Nat)(off:List (List cg)),ts=[.int c,.lst (pl.map dT),BW ae]/\DSk m mo ae/\m<=100/\mo<=100/\off.map List.length=ae.map List.length/\PlT off pl/\∀v w,PlX off v w->q (.fz (.tup [w,v]))
def Yx(T:Tx D)(cF:gT 1 gF dY iI)(VP:gT 1 Tc Jg Zf)(F:Fu Dg Gu f fd):FT 2 f fd rA Li:=by
 refine F.okT W8 λai A outer s H E hr nd=>?_;refine⟨_,(bC (bQ 3 (bH cF (bw (qv 0) (bw bx bA))))
  (bC (cB (QW.qt (jV (b_ (go_eq hr.units) (bJ cj (bI (qv 3) bx) bx) bx) (iM (b_ (go_eq hr.units) (bL cH T.dg WP (bw (qv 2) bA)) bx))))
  (bC (bQ 7 (dz (bw iK (bw (jJ aaq T.PJ boot_tuple (bw (qv 1) bA)) (bw (bJ cD (qv 1) (dz (bw iK bA))) (bw (bJ cD (qv 1) (dz (bw bx bA))) (bw j7 (bw bx (bw k_ bA)))))))))
  (bC (cB (b_ KJ (bL cH T.dg WP (bw (qv 1) bA)) bx)
  (bG (bQ 7 (bJ cD (qv 7) (dz (bw (jT (qv 1) (gZ bx) Cv) (bw (jT (qv 1) Cv (gZ (zu bx))) (bw (dz bA) bA)))))))
  bR)
  (bG (bM (cX (bw iK (bw (bI (qv 7) (bJ cj (bI (qv 3) bx) (bL cH T.dg WP (bw (qv 7) bA)))) bA)))))))
  bR)
  (bC (bQ 4 (bJ cj (bI (qv 3) bx) (bL cH T.dg WP (bw (qv 2) bA))))
  (bC (bQ 5 (bJ cD (bJ cD (qv 4) bx) (bJ cj (bI (qv 3) bx) (bL cH T.dg WP (bw (qv 2) bA)))))
  (bC (jL 6 (jJ yu T.tH boot_list (bw (qv 1) bA)))
  (bC (wO 6 (bH VP (bw (bI (qv 3) bx) (bw (bL cH T.dg WP (bw (bI (qv 2) (qv 4)) bA)) bA))) (qv 4))
  (bC (cB (b_ uz (qv 5) (bL cH T.dg WP (bw (qv 2) bA)))
  (bG (wO 6 (bH VP (bw (bI (qv 3) bx) (bw (bL cH T.dg WP (bw (bI (qv 2) (qv 5)) bA)) bA))) (qv 5)))
  bR)
  (bG (CP 6 (bM (cX (bw (qv 4) (bw (qv 6) bA))))))))))))),?_⟩
 rintro _ R ⟨c,pl,ae,m,mo,off,rfl,hd,m1,mo1,eo,hp,q⟩;have ol:off.length=m:=by rw[<- hd.len,<- ak (f:=List.length),eo,ak]
 have pm:(pl.map dT).length=off.length:=by rw[ak,hp.len]
 have dl:(ae.map λds=>L2.T.lst (ds.map ldT)).length=m:=by rw[ak,hd.len]
 have fd:=λ(j:Nat)(u:L2.T)(es:List cg)=>aij hp (j:=j) (u:=u) (es:=es);generalize pl.map dT=us at pm fd ⊢;have sz1:us.length+1<=sizeLine:=aL (show us.length+1<=101 by lia) (by decide);refine⟨c,5,rfl,by decide,_,cZ (k:=0),by decide,swD (λ_=>?a) λh3=>swD (λ_=>?b) λh0=>?c⟩
 case c =>
  have m0:0<m:=by rw[dl]at h0;lia
  obtain⟨k,k1,k2⟩:=Zh (strm c 1) m0;obtain⟨l,l1,l2⟩:=Zh (strm c 2) m0;have k3:strm c 1%(((ae.map λds=>L2.T.lst (ds.map ldT)).length:Nat):Int)=(k:Nat):=by rw[dl];exact k2
  have l3:strm c 2%(((ae.map λds=>L2.T.lst (ds.map ldT)).length:Nat):Int)=(l:Nat):=by rw[dl];exact l2
  refine⟨_,cZ (k:=1),by rw[dl];lia,?_⟩;rw[k3];refine⟨_,cZ (k:=2),by rw[dl];lia,?_⟩;rw[l3];have ed:∀k,k<m->ae[k]?=some (ae.getD k []):=λk hk=>by rw[au,aj (by rw[hd.len];exact hk)];rfl
  have few:∀k,k<m->(ae.getD k []).length<=100:=λk hk=>aL (hd.few _ (aC (ed k hk))) mo1;have two:∀{a:Int}{k:Nat},[L2.T.int a,L2.T.int ((((ae.getD k []).map ldT).length:Nat):Int)]=[L2.T.int a,L2.T.int (((ae.getD k []).length:Nat):Int)]:=by intro a k;rw[ak]
  have eok:off[k]?=some off[k]:=aj (by lia);have lk:(off[k]).length=(ae.getD k []).length:=by
   have:=ZH (·[k]?) eo;simp only[aq,eok,ed k k1]at this;exact Option.some.inj this
  have aS:∀vs:List L2.T,vs.length=off.length->(∀j,j<k->vs[j]?=us[j]?)->(∀t,Ik t (ae.getD k []).length=some false->vs[k]?=some t->R (.fz (.tup [.int (k:Nat),.lst vs]))):=λvs vl vj t ht vk =>
   q _ _ (.at vl (λj u es hj e1 e2=>fd j u es (by rw[<- vj j hj];exact e1) e2) vk eok (by rw[lk];exact ht))
  refine⟨_,cZ (k:=3),.lst ((ae.getD k []).map ldT),eE (h:=λds=>L2.T.lst (ds.map ldT)) (ed k k1),strm c 3,(ae.getD k []).length,two,few k k1,λt ht=>⟨k,tX (by lia),?_⟩⟩;have kl:(k:Int)+1+(l:Int)=((k+1+l:Nat):Int):=by lia
  rw[kl];refine swD (λh=>?_) λh=>?_
  .have h':k+1+l<m:=by rw[dl]at h;lia
   refine⟨_,cZ (k:=4),.lst ((ae.getD (k+1+l) []).map ldT),eE (h:=λds=>L2.T.lst (ds.map ldT)) (ed _ h'),strm c 4,(ae.getD (k+1+l) []).length,two,few _ h',λt' ht'=>⟨k+1+l,tX (by rw[WH];lia),?_⟩⟩;refine aS _ (by rw[WH,WH,pm]) (λj hj=>?_) t ht ?_
   .rw[VY (by lia),VY (VW hj)]
   .rw[VY (by lia),VT (by lia)];rfl
  .refine aS _ (by rw[WH,pm]) (λj hj=>?_) t ht ?_
   .rw[VY (VW hj)]
   .rw[VT (by lia)];rfl
 all_goals
  refine⟨sz1,sz1,swD (λhl=>⟨(show 10<=sizeLine by decide),?_⟩) λhl=>?_⟩
  .obtain⟨t,ht,e⟩:=yp [L2.T.non,.tup us,.lst (us++[.non]),.lst (us++[.int 0]),.str "plan",.int 0,.bl true,.lst (gR us (some 1) none),.lst (gR us none (some (-1))),.lst []] (strm c 1) (m:=10) rfl (by decide);refine⟨_,cZ (k:=1),(show(0:Int)<((10:Nat):Int)by decide),t,e,q t .non ?_⟩
   revert t
   simp only[YU,VZ,or_false];rintro t (rfl|rfl|rfl|rfl|rfl|rfl|rfl|rfl|rfl|rfl) _<;>first|exact .kind rfl|(refine .len ?_;first|rw[aA,pm];simp|rw[akR];lia|rw[ae9];lia|exact λ(z:0=off.length)=>by lia)
  .obtain⟨t,ht,e⟩:=yp [L2.T.non,.tup us,.lst (us++[.non]),.lst (us++[.int 0]),.str "plan",.int 0,.bl true] (strm c 1) (m:=7) rfl (by decide);refine⟨_,cZ (k:=1),(show(0:Int)<((7:Nat):Int)by decide),t,e,q t .non ?_⟩
   revert t
   simp only[YU,VZ,or_false];rintro t (rfl|rfl|rfl|rfl|rfl|rfl|rfl) _<;>first|exact .kind rfl|(refine .len ?_;rw[aA,pm];simp)
open Rw (sg fJ eF bU fu fQ Big)
theorem Pq:∀(ws:List (Nat×Rat))(j:Nat),jh ws j=dw ws λk=>if k=j then 1 else 0
 |[],_=>rfl
 |w::ws,j=>by
  rw[fP,<- Pq ws j];show(if w.1=j then w.2 else 0)+jh ws j=_;by_cases c:w.1=j
  .rw[ZY c,ZY c,Rat.mul_one]
  .rw[ZZ c,ZZ c,Rat.mul_zero]
def drL(ae:List (List LD))(pl:List (Option Nat))(k:Nat):Option LD:=(pl.getD k none).bind λd=>(ae.getD k [])[d]?
def Ui:Option LD->List (Nat×Rat)
 |none=>[]
 |some d=>d.prs
def agf{m mo:Nat}{ae:List (List LD)}{off:List (List cg)}(hd:DSk m mo ae)(ho:Cg ae off){pl:List (Option Nat)}{k:Nat}(hk:k<pl.length)(j:Nat):jh (rY ((chO off pl).getD k none)) j=jh (Ui (drL ae pl k)) j:=by
 have ek:=aj hk;rw[ajQ ek];unfold drL;rw[show pl.getD k none=pl[k]by rw[au,ek];rfl];cases pl[k]with
 |none=>rfl
 |some d =>
  obtain⟨t,et⟩:=adF ho k d;show jh (rY ((off.getD k [])[d]?)) j=jh (Ui ((ae.getD k [])[d]?)) j;rw[et];cases ed:(ae.getD k [])[d]? with
  |none=>rfl
  |some x =>
   have lx:LDk m x:=by
    by_cases c:k<ae.length
    .rw[au,aj c]at ed;exact hd.ok _ (aU c) x (aC ed)
    .have:ae[k]?=none:=aM (VS c);rw[au,this]at ed;cases ed
   obtain⟨q,q0,_,hq⟩:=lx.all;show jh (abz t x).ways j=jh x.prs j;rw[Pq,Pq];exact(LC q0 hq).sum _
def yS(ae:List (List LD))(pl:List (Option Nat))(x:Nat->Rat)(j m:Nat):Rat:=sg (λk=>jh (Ui (drL ae pl k)) j*x k) m
def ae1{s:Rat}{m mo:Nat}{ae:List (List LD)}{off:List (List cg)}(hd:DSk m mo ae)(ho:Cg ae off){pl:List (Option Nat)}(hp:PlT off pl){st:Nat}{x:Nat->Rat}(h:aay s (chO off pl) st x){j:Nat}(hj:j<m):x j=s*yS ae pl x j m+oneAt st j:=by
 have cl:(chO off pl).length=m:=by rw[Ue hp,ho.len,hd.len]
 have pm:pl.length=m:=by rw[hp.len,ho.len,hd.len]
 have:=h j (by rw[cl];exact hj);rw[cl,bU (g:=λi=>(if i=j then 1 else 0)*x i+(-s)*(jh (Ui (drL ae pl i)) j*x i)) λi hi=>by
  unfold gG;rw[agf hd ho (by rw[pm];exact hi)];by_cases c:j=i
  .rw[ZY c,ZY c.symm];grind
  .rw[ZZ c,ZZ (Ne.symm c)];grind,fJ,eF,fQ (v:=x),ZY hj]at this
 unfold yS
 grind
abbrev pE:Nat:=270
def grow{t p c b:Int}{n:Nat}(ht:t.natAbs<=10^n)(hb:b.natAbs<=10^n)(hp:p.natAbs<=10^264)(hc:c.natAbs<=10^264):(t*p+c*b).natAbs<=10^(n+pE)/\(b*p).natAbs<=10^(n+pE):=by
 have x:(t*p).natAbs<=10^(n+264):=by rw[VU,UQ];exact VX ht hp
 have y:(c*b).natAbs<=10^(n+264):=by rw[VU,UQ,TH];exact VX hb hc
 have z:(b*p).natAbs<=10^(n+264):=by rw[VU,UQ];exact VX hb hp
 have u:10^(n+264)*10<=10^(n+pE):=by rw[<- Nat.pow_succ];exact XU (by decide) (show n+264+1<=n+270 by lia)
 have v:=Int.natAbs_add_le (t*p) (c*b);lia
def V7:ST:=λts q=>∃(m mo:Nat)(ae:List (List LD))(pl:List (Option Nat))(xs:List Rat)(j:Nat),ts=[.lst (xs.map frR),BW ae,.lst (pl.map dT),.int (j:Nat)]/\DSk m mo ae/\m<=8/\xs.length=m/\(∀x∈xs,Rz 260 260 x)/\PlD ae pl/\∀a b:Int,0<b->a.natAbs<=10^(pE*32)->b.natAbs<=10^(pE*32)->Rat.divInt a b=yS ae pl (λk=>xs.getD k 0) j m->q (.fz (pT a b))
def adu(T:Tx D)(F:Fu Lk S_ f fd):FT 1 f fd Cm V7:=by
 refine F.okT acX λai A outer s H E hr nd=>?_;refine⟨_,(bC (bQ 4 bx)
  (bC (bQ 5 bx)
  (bC (eV (dG T.fj (bw (bL cH T.dg WP (bw (qv 1) bA)) bA)) (bW (n:=99) 6)
  (bG (cB (b_ Gi (bI (qv 2) (qv 6)) iK)
  (bG (eV (cR (bI (bI (bI (qv 1) (qv 6)) (bI (qv 2) (qv 6))) bx)) (fW (n:=2) (bT (bW (n:=99) 7) (bT (bW (n:=99) 8) dO)))
  (bG (cB (b_ (go_eq hr.units) (qv 7) (qv 3))
  (bC (bQ 9 (bJ mX (bI (qv 8) bx) (bI (bI (qv 0) (qv 6)) bx)))
  (bC (bQ 4 (bJ cD (bJ mX (qv 4) (qv 9)) (bJ mX (bJ mX (bI (qv 8) bx) (bI (bI (qv 0) (qv 6)) bx)) (qv 5))))
  (bG (bQ 5 (bJ mX (qv 5) (qv 9))))))
  bR))))
  bR)))
  (bG (bM (cX (bw (qv 4) (bw (qv 5) bA)))))))),?_⟩
 rintro _ R ⟨m,mo,ae,pl,xs,j,rfl,hd,m8,xl,hx,hl,q⟩;have dl:(ae.map λds=>L2.T.lst (ds.map ldT)).length=m:=by rw[ak,hd.len]
 refine⟨⟨by rw[dl];lia,by rw[dl];lia⟩,?_⟩;rw[dl];have p0:Bm 0/\Bm 1:=⟨tL (n:=0) (by decide) (by decide),tL (n:=0) (by decide) (by decide)⟩;refine oR (n:=m) (λk o=>∃(t b:Int)(x6 x7 x8 x9:OT),o=[.fz (.lst (xs.map frR)),.fz (BW ae),.fz (.lst (pl.map dT)),.fz (.int (j:Nat)),.fz (.int t),.fz (.int b),x6,x7,x8,x9]/\0<b/\t.natAbs<=10^(pE*(4*k))/\b.natAbs<=10^(pE*(4*k))/\Rat.divInt t b=yS ae pl (λk=>xs.getD k 0) j k) ⟨0,1,_,_,_,_,rfl,by decide,by decide,by decide,rfl⟩ ?_ ?_
 .rintro k _ hk ⟨t,b,x6,x7,x8,x9,rfl,b0,ht,hb,ev⟩;have lp:k<pl.length:=by rw[hl.len,hd.len];exact hk
  have ep:=aj lp;have eg:pl.getD k none=pl[k]:=by rw[au,ep];rfl
  have more:∀{n:Nat},n<=4*k+4->10^(pE*n)<=10^(pE*(4*(k+1))):=λ{n}hn=>XU (by decide) (Zzr _ (by omega));have ck:∀d,drL ae pl k=d->yS ae pl (λk=>xs.getD k 0) j (k+1)=yS ae pl (λk=>xs.getD k 0) j k+jh (Ui d) j*xs.getD k 0:=λd e=>by rw[<- e];rfl
  cases hp:pl[k]with
  |none =>
   rw[hp]at ep eg;refine⟨_,eE ep,t,b,_,_,_,_,rfl,b0,aL ht (more (X1 _ _)),aL hb (more (X1 _ _)),?_⟩;rw[ck none (by unfold drL;rw[eg];rfl),ev];show _=_+(0:Rat)*_;rw[Zzt,QQ]
  |some d =>
   rw[hp]at ep eg;have kd:k<ae.length:=by rw[hd.len];exact hk
   have ek:=aj kd;have gk:ae.getD k []=ae[k]:=by rw[au,ek];rfl
   have lt:d<ae[k].length:=of_decide_eq_true (hl.ok k (some d) _ ep ek);have el:=aj lt;have lk:LDk m ae[k][d]:=hd.ok _ (aU kd) _ (aU lt);have dr:drL ae pl k=some ae[k][d]:=by
    unfold drL;rw[eg,gk];exact el
   have ey:xs[k]?=some (xs.getD k 0):=by rw[au,aj (by lia)];rfl
   have yz:=hx _ (aC ey);have few:=lk.few;generalize ae[k][d]=ld at lk el dr few;obtain⟨qq,q0,q1,hq⟩:=lk.all;refine⟨_,eE ep,?_⟩;refine⟨.lst (ae[k].map ldT),eE (h:=λds=>L2.T.lst (ds.map ldT)) ek,_,eE ep,ldT ld,eE el,?_⟩;refine jc nwT ld.prs (λas o=>∃(t b:Int)(x7 x8 x9:OT),o=[.fz (.lst (xs.map frR)),.fz (BW ae),.fz (.lst (pl.map dT)),.fz (.int (j:Nat)),.fz (.int t),.fz (.int b),.fz (.int (k:Nat)),x7,x8,x9]/\0<b/\t.natAbs<=10^(pE*(4*k+as.length))/\b.natAbs<=10^(pE*(4*k+as.length))/\Rat.divInt t b=yS ae pl (λk=>xs.getD k 0) j k+jh as j*xs.getD k 0) ⟨t,b,_,_,_,rfl,b0,ht,hb,by rw[ev];show _=_+(0:Rat)*_;rw[Zzt,QQ]⟩ ?_ ?_
   .rintro as p bs _ e ⟨t,b,x7,x8,x9,rfl,b0,ht,hb,ev⟩;have pm:p∈ld.prs:=by rw[e];simp
    have al:as.length+1<=ld.prs.length:=by rw[e];simp
    have up:pE*(4*k+(as++[p]).length)=pE*(4*k+as.length)+pE:=by rw[aA,List.length_singleton,<- Nat.add_assoc,Nat.mul_add pE _ 1,Nat.mul_one]
    have wa:=Rk as p j;refine⟨rfl,swD (λh=>?_) λh=>?_⟩
    .have h:p.1=j:=by lia
     obtain⟨p1,p2,p3⟩:=hq p pm;have c1:p.2.den<=10^4:=aL (UY q0 p3) (aL q1 (by decide));have c2:p.2.num.natAbs<=10^4:=by
      have a:=Om (r:=p.2) (A:=1) (by
       have:=rG lk.nn pm;have one:(dw ld.prs λ_=>1)<=1:=by rw[Ak,lk.one];exact UT
       exact QR this one) (by have:=lk.nn p pm;rw[wJ];grind)
      lia
     have dp:=p.2.den_pos;have dy:=(xs.getD k 0).den_pos;have part:((p.2.den:Int)*((xs.getD k 0).den:Int)).natAbs<=10^264:=by
      rw[VU,XT,XT,show 10^264=10^4*10^260 by rw[<- UQ]];exact VX c1 yz.2
     have ct:(p.2.num*(xs.getD k 0).num).natAbs<=10^264:=by
      rw[VU,show 10^264=10^4*10^260 by rw[<- UQ]];exact VX c2 yz.1
     have pp:0<(p.2.den:Int)*((xs.getD k 0).den:Int):=XZ (by lia) (by lia);obtain⟨g1,g2⟩:=grow ht hb part ct;have bt:=tL ht (show pE*(4*k+as.length)<=100000 by unfold pE;lia);have bb:=tL hb (show pE*(4*k+as.length)<=100000 by unfold pE;lia);have bp:=tL part (by decide);refine⟨_,eE ey,⟨tL (n:=4) (by rw[XT];exact c1) (by decide),tL (n:=260) (by rw[XT];exact yz.2) (by decide)⟩,⟨bt,bp⟩,_,eE ey,⟨tL c2 (by decide),tL yz.1 (by decide)⟩,⟨tL ct (by decide),bb⟩,⟨bb,bp⟩,_,_,_,_,_,rfl,XZ b0 pp,by rw[up];exact g1,by rw[up];exact g2,?_⟩;rw[wa,ZY h,<- Qr _ _ (WU b0) (WU pp),<- QY,rd,rd,ev]
     grind
    .have h:p.1≠j:=by lia
     refine⟨t,b,_,_,_,rfl,b0,aL ht (by rw[up];exact XU (by decide) (X1 _ _)),aL hb (by rw[up];exact XU (by decide) (X1 _ _)),?_⟩;rw[wa,ZZ h,QQ,ev]
   .rintro _ ⟨t,b,x7,x8,x9,rfl,b0,ht,hb,ev⟩;exact⟨t,b,_,_,_,_,rfl,b0,aL ht (more (by lia)),aL hb (more (by lia)),by rw[ev,ck _ dr];rfl⟩
 .rintro _ ⟨t,b,x6,x7,x8,x9,rfl,b0,ht,hb,ev⟩;have le:10^(pE*(4*m))<=10^(pE*32):=XU (by decide) (Zzr _ (by lia));exact q t b b0 (aL ht le) (aL hb le) ev
def RM:ST:=λts q=>∃a b c d:Int,ts=[pT a b,pT c d]/\0<b/\0<d/\(Bm a/\Bm b/\Bm c/\Bm d)/\q (.fz (.bl (decide (Rat.divInt a b=Rat.divInt c d))))
def aaZ(F:Fu Lw s_same f fd):FT 1 f fd Cd RM:=by
 refine F.okT acw λai A outer s H E hr nd=>?_;refine⟨_,(bG (bM (mC (go_eq hr.units) (bJ mX (bI (qv 0) bx) (bI (qv 1) bx)) (bJ mX (bI (qv 1) bx) (bI (qv 0) bx))))),?_⟩;rintro _ R ⟨a,b,c,d,rfl,hb,hd,⟨ba,bb,bc,bd⟩,q⟩;refine⟨⟨ba,bd⟩,⟨bc,bb⟩,?_⟩;rw[decide_eq_decide.mpr (div_eq hb hd)]at q;exact q
def Qi:ST:=λts q=>∃(s:Rat)(m mo:Nat)(ae:List (List LD))(pl:List (Option Nat))(xs:List Rat)(st:Nat),ts=[.lst (xs.map frR),frR s,BW ae,.lst (pl.map dT),.int (st:Nat)]/\Shr s/\DSk m mo ae/\m<=8/\xs.length=m/\(∀x∈xs,Rz 260 260 x)/\PlD ae pl/\(∀j,j<m->xs.getD j 0=s*yS ae pl (λk=>xs.getD k 0) j m+oneAt st j)/\q (.fz (.bl true))
def aan(T:Tx D)(tG:gT 3 qP jN yQ)(Vb:gT 1 Lk Cm V7)(Uq:gT 1 Lw Cd RM)(F:Fu G7 P0 f fd):FT 4 f fd uO Qi:=by
 refine F.okT abg λai A outer s H E hr nd=>?_;refine⟨_,(bC (cB (dW (dN (bH tG (bw (qv 0) (bw (bL cH T.dg WP (bw (qv 2) bA)) bA)))))
  (bG (bM k_))
  bR)
  (bC (eV (dG T.fj (bw (bL cH T.dg WP (bw (qv 2) bA)) bA)) (bW (n:=99) 5)
  (bC (zF (bH Vb (bw (qv 0) (bw (qv 2) (bw (qv 3) (bw (qv 5) bA))))) (fW (n:=2) (bT (bW (n:=99) 7) (bT (bW (n:=99) 6) dO))))
  (bC (bQ 6 (bJ mX (qv 6) (bI (qv 1) bx)))
  (bG (cB (dW (dN (bH Uq (bw (bI (qv 0) (qv 5)) (bw (cX (bw (bJ cD (bJ mX (qv 7) (bI (qv 1) bx)) (bJ mX (jJ ZM T.Vv boot_int (bw (mC (go_eq hr.units) (qv 5) (qv 4)) bA)) (qv 6))) (bw (qv 6) bA))) bA)))))
  (bG (bM k_))
  bR)))))
  (bG (bM k_)))),?_⟩
 rintro _ R ⟨s,m,mo,ae,pl,xs,st,rfl,hs,hd,m8,xl,hx,hl,hv,q⟩;have dl:(ae.map λds=>L2.T.lst (ds.map ldT)).length=m:=by rw[ak,hd.len]
 refine⟨xs,m,by show[L2.T.lst (xs.map frR),L2.T.int (((ae.map λds=>L2.T.lst (ds.map ldT)).length:Nat):Int)]=_;rw[dl],xl,by exact aL m8 (by decide),?_⟩;refine⟨⟨by rw[dl];lia,by rw[dl];lia⟩,oR (λk o=>∃x5 x6 x7:OT,o=[.fz (.lst (xs.map frR)),.fz (frR s),.fz (BW ae),.fz (.lst (pl.map dT)),.fz (.int (st:Nat)),x5,x6,x7]) ⟨_,_,_,rfl⟩ ?_ ?_⟩
 .rintro j _ hj ⟨x5,x6,x7,rfl⟩;rw[dl]at hj;have ey:xs[j]?=some (xs.getD j 0):=by rw[au,aj (by lia)];rfl
  have yz:=hx _ (aC ey);have sz:=Wb hs;have sd:=s.den_pos;have dp:=(xs.getD j 0).den_pos;refine⟨m,mo,ae,pl,xs,j,rfl,hd,m8,xl,hx,hl,λa b b0 ba bb e=>⟨rfl,?_⟩⟩;have sb:(b*(s.den:Int)).natAbs<=10^(pE*32+2):=by rw[VU,XT,UQ];exact VX bb sz.2
  have sa:(a*s.num).natAbs<=10^(pE*32+2):=by rw[VU,UQ];exact VX ba sz.1
  have MB:=tL sb (by decide);have zz:((if xr false (decide ((j:Int)=((st:Nat):Int)))then(1:Int)else 0)=1/\oneAt st j=1)\/((if xr false (decide ((j:Int)=((st:Nat):Int)))then(1:Int)else 0)=0/\oneAt st j=0):=by
   by_cases c:j=st
   .exact .inl ⟨by rw[Zs (by lia)];rfl,ZY c⟩
   .exact .inr ⟨by rw[Zp (by lia)];rfl,ZZ c⟩
  have hzb:Bm (if xr false (decide ((j:Int)=((st:Nat):Int)))then(1:Int)else 0):=by
   rcases zz with⟨z,_⟩|⟨z,_⟩<;>rw[z]<;>exact tL (n:=0) (by decide) (by decide)
  have ht:(a*s.num+(if xr false (decide ((j:Int)=((st:Nat):Int)))then(1:Int)else 0)*(b*(s.den:Int))).natAbs<=10^(pE*32+3):=by
   have v:=Int.natAbs_add_le (a*s.num) ((if xr false (decide ((j:Int)=((st:Nat):Int)))then(1:Int)else 0)*(b*(s.den:Int)));have u:10^(pE*32+2)*10=10^(pE*32+3):=(Nat.pow_succ ..).symm;have w:((if xr false (decide ((j:Int)=((st:Nat):Int)))then(1:Int)else 0)*(b*(s.den:Int))).natAbs<=10^(pE*32+2):=by
    rcases zz with⟨z,_⟩|⟨z,_⟩<;>rw[z]
    .rw[UH];exact sb
    .rw[Zzx];exact aZ _
   lia
  have he:Rat.divInt (a*s.num+(if xr false (decide ((j:Int)=((st:Nat):Int)))then(1:Int)else 0)*(b*(s.den:Int))) (b*(s.den:Int))=xs.getD j 0:=by
   have y0:b*(s.den:Int)≠0:=Int.mul_ne_zero (WU b0) (by lia);have d1:∀z:Int,Rat.divInt z 1=(z:Rat):=λz=>by
    rw[TW,show((1:Int):Rat)=1 from rfl]
    grind
   have one:∀z:Int,Rat.divInt (a*s.num+z*(b*(s.den:Int))) (b*(s.den:Int))=Rat.divInt a b*s+(z:Rat):=λz=>by
    have:=Qr (a*s.num) z y0 (show(1:Int)≠0 by decide);rw[Tu,Tu]at this;rw[<- this,<- QY,rd,d1 z]
   rw[one,hv j hj,e];rcases zz with⟨z,z'⟩|⟨z,z'⟩<;>rw[z,z']<;>grind
  refine⟨⟨tL bb (by decide),tL (n:=2) (by rw[XT];exact sz.2) (by decide)⟩,_,eE ey,⟨tL ba (by decide),tL sz.1 (by decide)⟩,⟨hzb,MB⟩,(xs.getD j 0).num,(xs.getD j 0).den,_,_,rfl,by lia,XZ b0 (by lia),⟨tL yz.1 (by decide),tL (n:=260) (by rw[XT];exact yz.2) (by decide),tL ht (by decide),MB⟩,?_⟩;rw[Zs (by rw[he,Rat.num_divInt_den])];exact⟨_,_,_,rfl⟩
 .rintro _ ⟨x5,x6,x7,rfl⟩;exact q
def Cr(D:Adr):ST:=λts q=>∃(s:Rat)(ns:Θ)(off:List (List cg))(c:Int)(pl:List (Option Nat))(ae:List (List LD))(m mo st:Nat),ts=[hlT D s ns off,.lst (pl.map dT),BW ae,.int (st:Nat),.int c]/\Kq ns off/\DSk m mo ae/\m<=100/\mo<=100/\off.map List.length=ae.map List.length/\PlT off pl/\q (.fz (.bl true))
def aeF{α:Type}{x:Option α}{b:α}{q:α->Prop}(e:x=some b)(h:q b):oT x q:=by rw[e];exact h
def acA{a:Str}{q:OT->Prop}(h:q (.fz (.bl false))):gEq true (.str a) (.str a) q:=by
 have:q (.fz (.bl (xr true (decide (a=a))))):=by rw[Zs rfl];exact h
 exact this
def sane{o:List OT}{E:DT}{y:RS}{t:L2.T}{b:Bool}(e7:slot o 7=.fz (.str "room"))(e8:slot o 8=.fz t)(e6:slot o 6=.fz t)(k2:∀q:OT->Prop,q (.fz (.bl false))->gEq true t t q)(k3:isK .bool t=some b)(h:y E o) :
  d9 (acL (rOr (rB (rOp (gEq true) (Ji 7) (rC (.str "room")))) (rOr (rB (rOp (gEq true) (Ji 8) (Ji 6))) (rB (rOp (gEq true) (ab7 .bool (Ji 8)) (ab7 .bool (Ji 6)))))) (aeZ (rC (.bl false))) aew) y E o:=by
 unfold d9 acL rOr rB rOp Ji rC ab7;simp only[e7,e8,e6];refine acA ?_;dsimp only[frz,sw];refine k2 _ ?_;dsimp only[frz,sw];refine aeF k3 ?_;refine aeF k3 ?_;cases b<;>exact h
def Qa(T:Tx D)(cF:gT 1 gF dY iI)(HS:gT 2 Dg rA Li)(yD:gT 10 zy o_ (Jo D))(F:Fu uo w5 f fd):FT 11 f fd lA (Cr D):=by
 refine F.okT Oz λai A outer s H E hr nd=>?_;refine⟨_,(bC (bQ 5 (bH cF (bw (qv 4) (bw bx bA))))
  (bC (bQ 6 (bI (dz (bw (zu bx) (bw (bL cH T.dg WP (bw (qv 2) bA)) (bw iK (bw j7 (bw (bJ cD (bL cH T.dg WP (bw (qv 2) bA)) (bJ Gr bx bx)) (bw (cX (bw bx (bw bx bA))) (bw k_ (bw k_ bA))))))))) (bJ cj (bI (qv 5) bx) bx)))
  (bC (zF (bH yD (bw (qv 0) (bw (jJ yu T.tH boot_list (bw (qv 1) bA)) (bw (qv 6) bA)))) (fW (n:=2) (bT (bW (n:=99) 7) (bT (bW (n:=99) 8) dO))))
  (bC (cB (QW.qt (jV (b_ (mj hr.units) (qv 7) j7) (jV (b_ (mj hr.units) (qv 8) (qv 6)) (iM (b_ (mj hr.units) (mF .bool (qv 8) T.cW T.Hr boot_bool) (mF .bool (qv 6) T.cW T.Hr boot_bool))))))
  (bG (bM k_))
  bR)
  (bC (zF (bH HS (bw (qv 4) (bw (qv 1) (bw (qv 2) bA)))) (fW (n:=2) (bT (bW (n:=99) 9) (bT (bW (n:=99) 10) dO))))
  (bC (zF (bH yD (bw (qv 0) (bw (qv 10) (bw (bI (dz (bw (qv 3) (bw (qv 6) bA))) (bJ cj (bI (qv 5) bx) bx)) bA)))) (fW (n:=2) (bT (bW (n:=99) 7) (bT (bW (n:=99) 8) dO))))
  (bG (bM (xQ (mC (go_eq hr.units) (qv 7) j7) (xQ (Y0 (mF .bool (qv 8) T.cW T.Hr boot_bool)) (zj (mC (go_eq hr.units) (qv 8) (qv 9))))))))))))),?_⟩
 rintro _ R ⟨s,ns,off,c,pl,ae,m,mo,st,rfl,h,hd,m1,mo1,eo,hp,q⟩;have dl:(ae.map λds=>L2.T.lst (ds.map ldT)).length=m:=by rw[ak,hd.len]
 have nm:ns.length=m:=by rw[<- h.len,<- hd.len,<- ak (f:=List.length),eo,ak]
 have rf:(10:Int)^Int.toNat 30=10^30:=rfl;refine⟨c,7,rfl,by decide,⟨by decide,by decide⟩,?_⟩;dsimp only[frz];rw[rf,dl];refine⟨_,cZ (k:=5),by decide,?_⟩;obtain⟨t,ht,e⟩:=yp [L2.T.int (-1),.int (m:Nat),.non,.str "0",.int ((m:Nat)+10^30),.tup [.int 0,.int 1],.bl true,.bl false] (strm c 5) (m:=8) rfl (by decide);refine⟨t,e,?_⟩;have cK:RmX ns.length t/\(∀q:OT->Prop,q (.fz (.bl false))->gEq true t t q)/\∃b,isK .bool t=some b:=by
  clear e
  revert t
  simp only[YU,VZ,or_false];have ii:∀(i:Int)(q:OT->Prop),q (.fz (.bl false))->gEq true (.int i) (.int i) q:=λi q h=>by
   have:q (.fz (.bl (xr true (decide (i=i))))):=by rw[Zs rfl];exact h
   exact this
  rintro t (rfl|rfl|rfl|rfl|rfl|rfl|rfl|rfl)
  .exact⟨.far (by lia),ii _,_,rfl⟩
  .exact⟨.far (by lia),ii _,_,rfl⟩
  .exact⟨.kind rfl,λq h=>h,_,rfl⟩
  .exact⟨.kind rfl,λq h=>h,_,rfl⟩
  .have:(100:Int)<10^30:=by decide
   exact⟨.far (by lia),ii _,_,rfl⟩
  .exact⟨.kind rfl,λq h=>h,_,rfl⟩
  .exact⟨.kind rfl,λq h=>h,_,rfl⟩
  .exact⟨.kind rfl,λq h=>h,_,rfl⟩
 obtain⟨k1,k2,b,k3⟩:=cK;refine⟨s,ns,off,.lst (pl.map dT),t,rfl,h,.inr ⟨pl,rfl,hp,k1,rfl,?_⟩⟩;dsimp only[aex,hName,ajS];refine sane rfl rfl rfl k2 k3 ?_;refine⟨c,pl,ae,m,mo,off,rfl,hd,m1,mo1,eo,hp,λv w hx=>⟨rfl,?_⟩⟩;refine⟨_,cZ (k:=6),by decide,?_⟩;obtain⟨u,hu,eu⟩:=yp [L2.T.int (st:Nat),t] (strm c 6) (m:=2) rfl (by decide);refine⟨u,eu,s,ns,off,v,u,rfl,h,.inl ⟨w,hx,rfl,?_⟩⟩;cases hx with
 |kind e=>exact q
 |len e=>exact q
 |@«at» us k t ds l hf et eo ef =>
  have e:decide (((k:Nat):Int)=(k:Nat))=true:=Zs rfl;rw[<- e]at q;exact q
open Rw (sg fJ eF bU fu fQ Big vr)
def Sw:List Nat->Nat
 |[]=>1
 |n::ns=>n*Sw ns
theorem K9{n:Nat} : ∀{ns:List Nat},n∈ns->n ∣ Sw ns
 |m::ns,h=>(YU.mp h).elim (λe=>e ▸ Nat.dvd_mul_right _ _) λz=>Zxx (K9 z) (Nat.dvd_mul_left _ _)
theorem VG{c:Nat} : ∀{ns:List Nat},(∀n∈ns,0<n/\n<=c)->0<Sw ns/\Sw ns<=c^ns.length
 |[],_=>⟨UP,aG _⟩
 |n::ns,h=>by
  obtain⟨a,b⟩:=VG λx hx=>h x (aJ n hx);obtain⟨p,q⟩:=h n (aO ..);refine⟨QP p a,?_⟩;rw[List.length_cons,Nat.pow_succ,TH (c^_)];exact VX q b
abbrev N23(m:Nat):Nat:=1*(100*4000^m)
def aah{m:Nat}(h:m<=8):(2*m*N23 m)^m<=10^260/\N23 m<=10^260:=by
 obtain rfl|rfl|rfl|rfl|rfl|rfl|rfl|rfl|rfl:m=0\/m=1\/m=2\/m=3\/m=4\/m=5\/m=6\/m=7\/m=8:=by lia
 all_goals decide +kernel
def ac6{s:Rat}{m mo:Nat}{ae:List (List LD)}{off:List (List cg)}(hs:Shr s)(hd:DSk m mo ae)(m8:m<=8)(ho:Cg ae off){pl:List (Option Nat)}(hp:PlT off pl)(st:Nat):ViB s (chO off pl) st (N23 m):=by
 have ol:off.length=m:=by rw[ho.len,hd.len]
 have cl:(chO off pl).length=m:=by rw[Ue hp,ol]
 have ob:=aip hd ho;have co:=alA (pl:=pl) ob;have sz:=Wb hs;have sd:=s.den_pos;have gc:∀i,i<m->(chO off pl).getD i none∈chO off pl:=λi hi=>by rw[au,aj (by lia)];exact aU _
 obtain⟨m1,m2⟩:=aah m8;have NL:10^260<=NN:=XU (by decide) (by decide);obtain⟨p0,p1⟩:=VG (c:=4000) (ns:=(chO off pl).map qO) λn hn=>by
  obtain⟨c,hc,rfl⟩:=YV.mp hn;exact⟨abd _,(co c hc).q (by decide)⟩
 rw[ak,cl]at p1;refine⟨sz.bq (by decide) (by decide),λc hm=>?_,?_⟩
 .rw[cl];cases c with
  |none=>exact⟨.nil,aZ _,λ_ z=>(nomatch z),λ_ z=>(nomatch z)⟩
  |some o =>
   have b:=co _ hm o rfl;refine⟨b.nd,b.few,b.lt,λw hw=>?_⟩;have wz:=ajf b (by decide) hw;exact⟨wz.bq (by decide) (by decide),sz.dd wz (by decide),(sz.mul wz).bq (by decide) (by decide)⟩
 .rw[cl];refine ajs (q:=λ_=>s.den*Sw ((chO off pl).map qO)) (aL m8 (by decide)) (by decide) (λi hi=>⟨QP sd p0,VX hs.den p1⟩) (λj i hj hi=>?_) (λj hj=>?_) (QP (by decide) (Nat.pow_pos (by decide))) (aL m1 NL) (aL m2 NL) λx hx=>?_
  .obtain⟨a,b⟩:=agb (j:=j) hs.lo hs.hi (co _ (gc i hi));exact⟨Zxx a (Nat.mul_dvd_mul_left _ (K9 (YV.mpr ⟨_,gc i hi,rfl⟩))),b⟩
  .show(if j=st then(1:Rat)else 0).den ∣ _/\(if j=st then(1:Rat)else 0).num.natAbs<=1*(if j=st then(1:Rat)else 0).den;split
   .exact⟨U1 _,aG _⟩
   .exact⟨U1 _,aZ _⟩
  .rw[<- cl]at hx ⊢;exact abM hs.lo hs.hi (λi hi=>by rw[cl]at hi ⊢;exact(co _ (gc i hi)).sh) x hx
structure Z2(s:Rat)(m:Nat)(ae:List (List LD))(pl:List (Option Nat))(st:Nat)(xs:List Rat):Prop where
 len:xs.length=m
 b:∀x∈xs,Rz 260 260 x
 due:∀j,j<m->xs.getD j 0=s*yS ae pl (λk=>xs.getD k 0) j m+oneAt st j
def aeh{s:Rat}{m mo:Nat}{ae:List (List LD)}{off:List (List cg)}(hd:DSk m mo ae)(m8:m<=8)(ho:Cg ae off){pl:List (Option Nat)}(hp:PlT off pl){st:Nat}{x:Nat->Rat}(hv:aay s (chO off pl) st x)(hb:∀i,i<off.length->FnB ((2*off.length*N23 m)^off.length) (x i)):Z2 s m ae pl st ((List.range off.length).map x):=by
 have ol:off.length=m:=by rw[ho.len,hd.len]
 have yg:∀k,k<off.length->((List.range off.length).map x).getD k 0=x k:=λk hk=>by rw[au,aq,VQ hk];rfl
 refine⟨by rw[ak,WJ,ol],λz hz=>?_,λj hj=>?_⟩
 .obtain⟨i,hi,rfl⟩:=YV.mp hz;have:=hb i (List.mem_range.mp hi);rw[ol]at this;exact⟨aL this.n (aah m8).1,aL this.d (aah m8).1⟩
 .rw[yg j (by lia),ae1 hd ho hp hv hj];unfold yS;rw[bU (f:=λk=>jh (Ui (drL ae pl k)) j*((List.range off.length).map x).getD k 0) (g:=λk=>jh (Ui (drL ae pl k)) j*x k) λk hk=>by rw[yg k (by lia)]]
def akv{K:Frag}{F:Hp}{xs:Ε}{a b c:Int}(h:bV K F xs [.int a,.int b,.int c]):xs=[.int a,.int b,.int c]:=by
 cases h with|cons a r=>cases r with|cons b r=>cases r with|cons c r=>cases r;cases a;cases b;cases c;rfl
def alV{α:Type}{xs:List α}(h:xs.length=3):∃a b c,xs=[a,b,c]:=by
 match xs,h with
 |[a,b,c],_=>exact⟨a,b,c,rfl⟩
def YM{i:Nat}{o:List OT}{t:L2.T}{q:OT->Prop}(e:slot o i=.fz t)(h:q (.fz t)):Ji i o q:=by unfold Ji;rw[e];exact h
def sq9{a b c d e f g h x y:RS}{E:DT}{o:List OT}(J:List OT->Prop)(k:∀o',J o'->y E o')(p:∀Y:List OT->Prop,(∀o',J o'->Y o')->d9 a (d9 b (d9 c (d9 d (d9 e (d9 f (d9 g (d9 h (d9 x (λ_=>Y))))))))) E o):d9 a (d9 b (d9 c (d9 d (d9 e (d9 f (d9 g (d9 h (d9 x y)))))))) E o:=p (y E) k
structure amq(s:Rat)(m:Nat)(ae:List (List LD))(nm:Θ)(off:List (List cg))(p0 p1:List (Option Nat))(a b:Nat):Prop where
 hs:Shr s
 m1:1<=m
 m8:m<=8
 hd:DSk m 6 ae
 hok:Kq nm off
 ho:Cg ae off
 h0:PlD ae p0
 h1:PlD ae p1
 la:a<m
 lb:b<m
def o23(D:Adr)(ns:List Int)(s:Rat)(m:Nat)(ae:List (List LD))(nm:Θ)(off:List (List cg))(p0 p1:List (Option Nat))(xs:L2.T)(st pe:OT):List OT:=[.fz (scT ns),.fz (frR s),.fz (.int (m:Nat)),.fz (BW ae),.fz (hlT D s nm off),.fz (.lst (p0.map dT)),.fz xs,st,.fz (.lst (p0.map dT)),.fz (.lst (p1.map dT)),pe,.und,.und,.und,.und]
abbrev sts(a b:Nat):List L2.T:=[.int (a:Nat),.int (b:Nat)]
def abk:ST:=λts q=>∃ns:List Int,ts=[scT ns]/\ns.length<=63/\q (.fz (.bl true))
def afH(T:Tx D)(nW:gT 1 FJ yr Ms)(Pn:gT 3 Jb vM Q8)(TJ:gT 2 Ph BR st_size)(Ln:gT 5 Il xu R9)(U7:gT 9 Lx Bu (V1 D))(Cu:gT 2 Dc rF KQ)(cF:gT 1 gF dY iI)(iD:gT 9 jd fK (vV D))(vB:gT 11 uo lA (Cr D))(Fz:gT 4 G7 uO Qi)(F:Fu Ut Wa f fd):FT 12 f fd Ol abk:=by
 refine F.okT Mq λai A outer s H E hr nd=>?_;refine⟨_,(bC (bQ 1 (bH Pn (bw (bH nW (bw (qv 0) (bw bx bA))) bA)))
  (bC (bQ 2 (bH TJ (bw (bH nW (bw (qv 0) (bw bx bA))) bA)))
  (bC (bQ 3 (bH Ln (bw (qv 0) (bw bx (bw (qv 2) (bw bx bA))))))
  (bC (bQ 4 (bH U7 (bw (bH nW (bw (qv 0) (bw bx bA))) (bw (qv 1) (bw (qv 3) bA)))))
  (bC (bQ 5 (bH Cu (bw (bH nW (bw (qv 0) (bw bx bA))) (bw (qv 3) bA))))
  (bC (bQ 6 (bH cF (bw (bH nW (bw (qv 0) (bw bx bA))) (bw bx bA))))
  (bC (jL 7 (dz (bw (bJ cj (bI (qv 6) bx) (qv 2)) (bw (bJ cj (bI (qv 6) bx) (qv 2)) bA))))
  (bC (bQ 8 (jJ yu T.tH boot_list (bw (qv 5) bA)))
  (bC (bQ 9 (bH Cu (bw (bJ cD (bJ FZ (bH nW (bw (qv 0) (bw bx bA))) bx) bx) (bw (qv 3) bA))))
  (bC (jL 10 (afG (bH iD (bw (qv 4) (bw (qv 8) (bw (nG 7 bx) bA)))) (bH iD (bw (qv 4) (bw (qv 8) (bw (nG 7 bx) bA))))))
  (bC (ach 10 (bH iD (bw (qv 4) (bw (jJ yu T.tH boot_list (bw (qv 9) bA)) (bw (nG 7 bx) bA)))))
  (bC (cB (dW (dN (bH vB (bw (qv 4) (bw (qv 5) (bw (qv 3) (bw (nG 7 bx) (bw (bJ cD (bJ FZ (bH nW (bw (qv 0) (bw bx bA))) bx) bx) bA))))))))
  (bG (bM k_))
  bR)
  (bC (tY 7 (nG 7 bx))
  (bC (CP 7 (alT (abV PassesOwn.never rfl (ac9 (by rfl) T.Wn (cA (pv 10) (cA (pv 7) (cA (aed (cA (pv 5) (cA (pv 5) (cA (pv 9) jf)))) jf))).mono) (acE (n:=3) rfl (Cw (jC (i:=12) Mq.nd rfl (Or.inl rfl)) (Cw (jC (i:=13) Mq.nd rfl (Or.inl rfl)) (Cw (jC (i:=14) Mq.nd rfl (Or.inl rfl)) VL))))
     (wN (aeK (Y4 (agG (Cp Fz hr.md (by rfl) (cA (pv 12) (cA (pv 1) (cA (pv 3) (cA (pv 14) (cA (pv 13) jf)))))) (λ_=>rfl)))
      (pZ (zO aen))
      VD)
     (wN (iY (N5 (pv 12) (cA (Gb (cA Tf (cA Tf jf))) jf)))
     (pZ (iY (afL (pv 12)))))))))
  (bC (bQ 11 (bH iD (bw (qv 4) (bw (qv 8) (bw (bI (qv 7) bx) bA)))))
  (bG (bM (xQ (mC (go_eq hr.units) (qv 8) (qv 5)) (zj (bH Fz (bw (qv 11) (bw (qv 1) (bw (qv 3) (bw (qv 5) (bw (bI (qv 7) bx) bA))))))))))))))))))))))))),?_⟩
 rintro _ R ⟨ns,rfl,nl,q⟩;refine sq9 (λo=>∃s m ae nm off p0 p1 a b xs,amq s m ae nm off p0 p1 a b/\o=o23 D ns s m ae nm off p0 p1 xs (.l1 (sts a b)) .und) ?_ λY hY=>?_
 rotate_left
 .refine⟨ns,2,rfl,by exact aL nl (by decide),_,rfl,λs hs=>⟨ns,0,rfl,by exact aL nl (by decide),_,rfl,λm m1 m8=>⟨ns,5,m,6,rfl,by exact aL nl (by decide),by exact aL m8 (by decide),by decide,λae hd=>?_⟩⟩⟩;dsimp only;rw[acG];refine⟨ns,1,rfl,by exact aL nl (by decide),_,s,m,6,ae,rfl,hs,hd,by exact aL m8 (by decide),by decide,λnm off hn hok ho=>?_⟩;have dl:=hd.len;refine⟨ns,3,rfl,by exact aL nl (by decide),_,ae,rfl,by lia,λp0 h0=>⟨ns,4,rfl,by exact aL nl (by decide),_,2,rfl,by decide,?_⟩⟩;generalize ns.getD 4 0=c;have mp:(0:Int)<(m:Nat):=by lia
  obtain⟨a,ea,la⟩ : ∃a:Nat,strm c 0%(m:Nat)=(a:Nat)/\a<m:=by
   have h1:=Z3 (strm c 0) (show((m:Nat):Int)≠0 by exact WU mp);have h2:=YY (strm c 0) mp;exact⟨(strm c 0%(m:Nat)).toNat,by lia,by lia⟩
  obtain⟨b,eb,lb⟩ : ∃b:Nat,strm c 1%(m:Nat)=(b:Nat)/\b<m:=by
   have h1:=Z3 (strm c 1) (show((m:Nat):Int)≠0 by exact WU mp);have h2:=YY (strm c 1) mp;exact⟨(strm c 1%(m:Nat)).toNat,by lia,by lia⟩
  refine⟨_,cZ (k:=0),mp,_,cZ (k:=1),mp,?_⟩;dsimp only[frz];rw[ea,eb];exact⟨ns,3,rfl,by exact aL nl (by decide),.inr (by constructor<;>decide),_,ae,rfl,by lia,λp1 h1=>hY _ ⟨s,m,ae,nm,off,p0,p1,a,b,_,⟨hs,m1,m8,hd,hok,ho,h0,h1,la,lb⟩,rfl⟩⟩
 rintro _ ⟨s,m,ae,nm,off,p0,p1,a,b,xs,⟨hs,m1,m8,hd,hok,ho,h0,h1,la,lb⟩,rfl⟩;have dl:=hd.len;have fN:=V0 ho h0;have nS:=V0 ho h1;have ol:off.length=m:=by rw[ho.len,dl]
 have few:off.length<=100:=by lia
 have ym:∀y:Nat->Rat,((List.range off.length).map y).map frR=(List.range off.length).map λi=>frR (y i):=λy=>by rw[WS];rfl
 refine sq2 (λo=>∃z0 z1 z2,Z2 s m ae p0 a z0/\Z2 s m ae p0 b z1/\Z2 s m ae p1 a z2/\o=o23 D ns s m ae nm off p0 p1 xs (.l1 (sts a b)) (.l2 [z0.map frR,z1.map frR,z2.map frR])) ?_ λY hY=>?_
 rotate_left
 .refine⟨_,rfl,s,nm,off,p0,a,N23 m,rfl,hok,fN,few,by lia,ac6 hs hd m8 ho fN a,λy0 hv0 hb0=>⟨_,rfl,s,nm,off,p0,b,N23 m,rfl,hok,fN,few,by lia,ac6 hs hd m8 ho fN b,λy1 hv1 hb1=>⟨_,rfl,s,nm,off,p1,a,N23 m,rfl,hok,nS,few,by lia,ac6 hs hd m8 ho nS a,λy2 ko hb2=>⟨(show 2<sizeLine by decide),?_⟩⟩⟩⟩;refine hY _ ⟨_,_,_,aeh hd m8 ho fN hv0 hb0,aeh hd m8 ho fN hv1 hb1,aeh hd m8 ho nS ko hb2,?_⟩;rw[ym,ym,ym]
  rfl
 rintro _ ⟨z0,z1,z2,W0,W1,W2,rfl⟩;refine sq1 (λo=>o=o23 D ns s m ae nm off p0 p1 xs (.l1 (sts a b)) (.l2 [z0.map frR,z1.map frR,z2.map frR])) ?_ λY hY=>?_
 rotate_left
 .have eo:off.map List.length=ae.map List.length:=by
   refine TU (by rw[ak,ak,ho.len]) λk k1 k2=>?_;rw[ak]at k1 k2;rw[UZ,UZ];obtain⟨tl,jn,e⟩:=ho.at_ k _ _ (aj k2) (aj k1);rw[e,ak,VV,jn,Up]
  exact⟨_,rfl,ns,4,rfl,by exact aL nl (by decide),.inr (by constructor<;>decide),s,nm,off,_,p0,ae,m,6,a,rfl,hok,hd,by exact aL m8 (by decide),by decide,eo,fN,hY _ rfl⟩
 rintro _ rfl;refine⟨_,rfl,(show 2<sizeLine by decide),?_⟩;show rP _ _ _ (o23 D ns s m ae nm off p0 p1 xs (.fz (.lst [.int (a:Nat),.int (b:Nat),.int (a:Nat)])) (.l2 [z0.map frR,z1.map frR,z2.map frR]));intro own H1 σ Dn h L;obtain⟨u1,e1,r1⟩:=h.get (i:=1) (t:=frR s) rfl;obtain⟨u3,e3,r3⟩:=h.get (i:=3) (t:=BW ae) rfl;obtain⟨u5,e5,r5⟩:=h.get (i:=5) (t:=.lst (p0.map dT)) rfl;obtain⟨u7,e7,r7⟩:=h.get (i:=7) (t:=.lst [.int (a:Nat),.int (b:Nat),.int (a:Nat)]) rfl;obtain⟨u9,e9,r9⟩:=h.get (i:=9) (t:=.lst (p1.map dT)) rfl;obtain⟨l,bs,e10,o10,nd,hl,lbs,hc⟩:=h.l2 (i:=10) (tss:=[z0.map frR,z1.map frR,z2.map frR]) rfl;obtain⟨c7,xs7,rfl,ng,rx7⟩:=r7.lstI;obtain⟨b0,b1,b2,rfl⟩:=alV lbs;cases akv rx7;have ow:∀b,b∈[l,b0,b1,b2]->Ow own b:=λb hb=>⟨10,by rw[o10];exact hb⟩;have cn:¬Ow own c7:=(cI ng).1;refine U9 ⟨_,e10,_,e7,_,e5,_,e5,_,e9,(show 3<=sizeLine by decide),λp H2 S2 np ep=>?_⟩;have pn:¬Ow own p:=λz=>(h.sole z).ne np;have T2:=bN (S:=Ow own) S2;refine⟨l,c7,p,_,_,_,rfl,S2 _ _ hl,S2 _ _ (cI ng).2,ep,rfl,rfl,λk σ' H'=>σ'.length=σ.length/\(∀i,i∉[10,12,13,14]->σ'[i]?=σ[i]?)/\Same (L2.hd (Ow own) H2) (L2.hd (Ow own) H')/\(∀b,Ow own b->∃ys,H' b=some (.lst ys))/\H' l=some (.lst [.ref b0,.ref b1,.ref b2])/\∀(j:Nat)b(zs:List Rat),k<=j->[b0,b1,b2][j]?=some b->[z0,z1,z2][j]?=some zs->∃ys,H' b=some (.lst ys)/\bV K (L2.hd (Ow own) H') ys (zs.map frR),⟨rfl,λ_ _=>rfl,.refl _,λb hb=>?_,S2 _ _ hl,?_⟩,?_,?_,?_⟩
 .obtain⟨ys,e⟩:=h.lists rfl hb;exact⟨ys,S2 _ _ e⟩
 .intro j b zs _ eb ez;obtain⟨ys,e,r⟩:=hc j b _ eb (by rw[show[z0.map frR,z1.map frR,z2.map frR]=[z0,z1,z2].map (λz=>z.map frR)from rfl,aq,ez];rfl);exact⟨ys,S2 _ _ e,r.same T2⟩
 .rintro k σ' H' ⟨_,_,SS,_,gS,_⟩;exact⟨gS,cC _ _ (SS _ _ ((cL cn).trans (S2 _ _ (cI ng).2))),cC _ _ (SS _ _ ((cL pn).trans ep))⟩
 .rintro k x y z σ' H' t ex ey ez ⟨sl,se,SS,mM,gS,hj⟩ ht;obtain⟨b',zs,pl,st,eb,ezs,rfl,rfl,lst,W,aE,ry⟩ : ∃b' zs pl st,[b0,b1,b2][k]?=some b'/\[z0,z1,z2][k]?=some zs/\x=.ref b'/\y=.int (st:Nat)/\st<m/\Z2 s m ae pl st zs/\PlD ae pl/\Rep K (L2.hd (Ow own) H1) z (.lst (pl.map dT)):=by
   match k,ex,ey,ez with
   |0,rfl,rfl,rfl=>exact⟨b0,z0,p0,a,rfl,rfl,rfl,rfl,la,W0,h0,r5⟩
   |1,rfl,rfl,rfl=>exact⟨b1,z1,p0,b,rfl,rfl,rfl,rfl,lb,W1,h0,r5⟩
   |2,rfl,rfl,rfl=>exact⟨b2,z2,p1,a,rfl,rfl,rfl,rfl,la,W2,h1,r9⟩
  obtain⟨ys,hb,rz⟩:=hj k b' zs (aG _) eb ezs;have l15:σ.length=15:=h.len.symm;have g:∀i,i∉[10,12,13,14]->(((σ'.set 12 (some (.ref b'))).set 13 (some (V.int (st:Nat)))).set 14 (some z))[i]?=σ[i]?:=λi hi=>by rw[VY (λz=>hi (by rw[<- z];decide)),VY (λz=>hi (by rw[<- z];decide)),VY (λz=>hi (by rw[<- z];decide)),se i hi]
  have qk:(((σ'.set 12 (some (V.ref b'))).set 13 (some (V.int (st:Nat)))).set 14 (some z))[12]?=some (some (.ref b')):=by rw[VY (by decide),VY (by decide),VT (by lia)]
  have g13:(((σ'.set 12 (some (V.ref b'))).set 13 (some (V.int (st:Nat)))).set 14 (some z))[13]?=some (some (.int (st:Nat))):=by rw[VY (by decide),VT (by rw[WH];lia)]
  have g14:(((σ'.set 12 (some (V.ref b'))).set 13 (some (V.int (st:Nat)))).set 14 (some z))[14]?=some (some z):=by rw[VT (by rw[WH,WH];lia)]
  have bo:Ow own b':=ow b' (aJ _ (aC eb));have ab:l≠b':=λz=>by
   have:b'∈[b0,b1,b2]:=aC eb;rw[<- z]at this;exact(List.nodup_cons.mp nd).1 this
  have S3:Same H' (upd H' t (.tup [.ref b',.int (st:Nat),z])):=Same.upd ht;have T3:=T2.trans (SS.trans (bN (S:=Ow own) S3));refine⟨t,_,rfl,bY,rfl,_,_,rfl,_,_,rfl,_,_,rfl,rfl,_,qk,_,(g 1 (by decide)).trans e1,_,(g 3 (by decide)).trans e3,_,g14,_,g13,_,λx=>x=.fz (.bl true),.cons (.lst (S3 _ _ hb) (rz.same (bN (S:=Ow own) S3 |>.trans cC))) (.cons ((r1.same T3).same cC) (.cons ((r3.same T3).same cC) (.cons ((ry.same T3).same cC) (.cons (.int _) .nil)))),⟨s,m,6,ae,pl,zs,st,rfl,hs,hd,by omega,W.len,W.b,aE,W.due,rfl⟩,?_⟩;rintro H3 v _ rfl S4 ⟨_,_,_,u,eu,ru⟩;cases eu;cases ru;have lz:ys.length=m:=by rw[rz.len,ak,W.len]
  refine⟨true,rfl,_,qk,b',ys,rfl,S4 _ _ (S3 _ _ hb),(show 2<=sizeLine by decide),λp H4 S5 fp ep=>⟨_,ys,rfl,S5 _ _ (S4 _ _ (S3 _ _ hb)),Y3 (show ys.length<=8 by exact aL (WG lz) m8) (by decide),_,qk,b',_,rfl,bY,?_⟩⟩;have S6:=S3.trans (S4.trans S5);have hu:∀(q1 q2:HO),L2.hd (Ow own) (upd (upd H4 b' q1) b' q2)=L2.hd (Ow own) H4:=λq1 q2=>by rw[vN bo,vN bo]
  refine⟨by rw[WH,WH,WH,sl],g,by rw[hu];exact SS.trans (bN S6),λd br=>?_,by rw[bO ab,bO ab];exact S6 _ _ gS,λj d ws kj ed ew=>?_⟩
  .by_cases z:d=b'
   .rw[z];exact⟨_,bY⟩
   .obtain⟨qs,hq⟩:=mM d br;exact⟨qs,by rw[bO z,bO z];exact S6 _ _ hq⟩
  .obtain⟨qs,hq,rq⟩:=hj j d ws (aL (Xs _) kj) ed ew;have db:d≠b':=λz=>by
    subst z;have:=Bc (List.nodup_cons.mp nd).2 ed eb;lia
   exact⟨qs,by rw[bO db,bO db];exact S6 _ _ hq,by rw[hu];exact rq.same (bN S6)⟩
 .rintro σ' H' ⟨sl,se,SS,mM,_,_⟩;refine L.nx _ H' σ' _ ?_ (by rw[Ow.ownG];exact T2.trans SS) (h.ghost (T2.trans SS) mM sl [10,12,13,14] se rfl);refine⟨_,rfl,s,nm,off,p0,a,N23 m,rfl,hok,fN,few,by lia,ac6 hs hd m8 ho fN a,λy hv hb=>?_⟩;have W:=aeh hd m8 ho fN hv hb;dsimp only[aeZ,aeu,rOp];refine YM (t:=.lst (p0.map dT)) rfl (YM (t:=.lst (p0.map dT)) rfl ?_);refine aak.gEq (a:=p0) (c:=p0) ?_;rw[Zs rfl];refine⟨_,rfl,?_⟩;dsimp only[frz];rw[<- ym];exact⟨s,m,6,ae,p0,_,a,rfl,hs,hd,by omega,W.len,W.b,h0,W.due,q⟩
end
def afd{K:Frag}{vs:Ε}{H:Hp}{Q:VK}{E:XK}(h:V5 K vs H Q E):spT K abk vs H Q E:=by
 obtain⟨a,ns,rfl,hs,hl,_,hQ⟩:=h;refine⟨[scT ns],λx=>x=.fz (.bl true),.cons (.scr hs (Di ns)) .nil,⟨ns,rfl,hl,rfl⟩,?_⟩;rintro H' v _ rfl _ ⟨B,_,_,u,e,r⟩;cases e;cases r;exact hQ H'
def law_fn{l:PySem.W.OpenLaw}{w:World}{K:Frag}{mg:Str->Ψ}(T0:∃D,Txt K mg D)(base:Heap)(f:Addr)(fd:FuncData)(F:Fun K Ut Ut Wa f fd) :
  dI l.prog w K mg base CX0 12 f fd Ol (V5 K):=by
 obtain⟨D,T⟩:=T0
 letI:Bs:=⟨l.prog,w,K,mg,base⟩
 have o {k:Nat}{n:Str}{st:Stmt}{ps:Θ}{sp:Sp} (h:cQ K mg n st ps) (g:∀{f fd},Fun K n n st f fd->dI l.prog w K mg base CX0 k f fd ps sp):OkF l.prog w K mg base k n ps sp:=h.ok λ_ _=>g;have i {X:CXT}{k:Nat}{n m:Str}{st:Stmt}{ps:Θ}{f:Addr}{sp:Sp} (h:vL K n m st ps f) (g:∀{fd},Fun K n m st f fd->dI l.prog w K mg base X k f fd ps sp):OkI l.prog w K mg base X k f ps sp:=h.ok λ_=>g;have x {k:Nat}{n:Str}{st:Stmt}{ps:Θ}{sp:Sp} (h:cQ K mg n st ps) (g:∀{f fd},Fun K n n st f fd->dI l.prog w K mg base (CXO l.prog w) k f fd ps sp):OkX l.prog w K mg base k n ps sp:=h.okX λ_ _=>g;have cG:=o T.Ud (RQ T);have d7:=o T.X4 (Tw T);have fB:=o T.acW (aas T cG d7);have T7:=o T.ag6 (ada fB);have n_:=o T.adL (abT fB);have Ov:=o T.adw (abN fB);have T6:=o T.agX (acB fB);have pW:=o T.ab2 (ZS);have iw:=o T.UJ (Q_ T cG d7);have yE:=o T.adN (aae d7);have jA:=o T.Yr (Vn T);have jB:=o T.Oj (Ka jA iw);have eG:=o T.Bl (zP jA);have gO:=o T.Hs (Ew T iw pW);have Mt:=o T.f_total (aag T yE fB);have ql:=o T.JW (HB T eG gO Mt);have qw:=o T.Kr (Hq T T7);have kZ:=i T.Pb (Mh T jB);have xK:=i T.PB (Nz T kZ eG);have eZ:=i T.Ko (Kl T kZ ql qw);have vI:=i T.Oi (L_ T jB gO n_ eZ);have vf:=i T.NP (Ly T eZ);have vP:=i T.Qd (OJ T);have qW:=o T.JF (G6 T iw pW);have t_:=o T.Ls (Kc T jA);have nQ:=o T.Er (CW T vP);have xW:=o T.Qy (Ma T nQ);have wM:=i T.LQ (Mg T qW t_ xW);have cu:=i T.Og (LR T);have eN:=i T.pG (JV T cG cu);have cN:=i T.Hg (Yq T eN);have qG:=o T.JZ (Iu T);have pA:=o T.aap (acF T cG);have Nr:=pA;have sV:=o T.uf (yK T pA cu cN);have gD:=o T.HJ (Fx T cN);have rN:=o T.abJ (Xp d7);have wj:=o T.RB (P_ T rN);have zH:=o T.Va (Qq T d7 rN);have vh:=o T.SJ (MJ T wj zH);have lg:=o T.RL (Mw fB);have oZ:=o T.Ho (Ft fB);have tV:=o T.Pj (JB T);have rQ:=o T.acS (YX vh);have v7:=o T.R_ (M9 T rQ lg T6);have pI:=o T.Hx (Fd T rQ lg n_);have Dd:=o T.XQ (U4 T yE tV v7 pI oZ);have zE:=o T.U0 (RN T);have qu:=o T.JH (Gq T);have vq:=o T.Qt (M4 T);have Dk:=o T.Xk (Vh T);have vQ:=o T.Ql (Od T);have iH:=o T.Jz (GZ T zE qu Dd vq Dk vQ);have kY:=o T.SQ (Nt T qG n_ Ov);have gC:=i T.Jd (G8 T);have pA:=o T.aap (aaY T cG);have mV:=x T.uf (uX T gC pA cu cN);have VP:=o T.alm (agv T);have nW:=o T.ag8 (adM);have cF:=o T.aax (Yi T);have KY:=o T.aj5 (af5 T);have jo:=o T.YS (Yn KY);have vC:=o T.Rj (Oc T KY);have tG:=o T.Mf (J2 T vC);have Gj:=o T.adW (aby T cF);have Pn:=o T.acP (abO T cF jo);have ZC:=o T.aiT (ae3 T jo);have TV:=o T.agB (ab3 T cF jo ZC);have Ln:=o T.ad4 (aat T nW cF TV);have TJ:=o T.afe (adO T cF);have Py:=o T.adR (Zk T xK eZ vI vf);have U7:=o T.ahg (adU T Gj Py wM);have Cu:=o T.abQ (Xv T cF);have q_:=o T.ZK (Yl T);have iD:=o T.yJ (Io T sV eN cu gD kY q_ iH);have qj:=i T.Iz (Hj T);have kO:=i T.pG (GJ T cG cu qj);have mV:=x T.uf (Fg T gC pA cu cN Nr);have o9:=x T.yJ (Es T mV kO cu gD kY q_ iH);have yD:=o T.XS (UW T o9);have HS:=o T.abl (Yx T cF VP);have Vb:=o T.ag5 (adu T);have Uq:=o T.agg (aaZ);have Fz:=o T.ad2 (aan T tG Vb Uq);have vB:=o T.QC (Qa T cF HS yD);exact(afH T nW Pn TJ Ln U7 Cu cF iD vB Fz F).imp λ_ _ _ _ h=>afd h
end K23
end
open PySem PySem.W PyProof.Rows L2
set_option maxRecDepth 100000 in
set_option maxHeartbeats 0 in
theorem PySem.Challenge.cw_chancehall_k23_visits_holds : PySem.Challenge.rw_chancehall_k23_visits.Holds := by
 w_on
 refine holds_law H23.wsd λmi=>?_;refine holds_open (q:=H23.qv) (loose:=[]) (XP:=XL H23.qv []) (YP:=InK H23.KH) H23.left (InK.of H23.asK) InK.keeps H23.hX XL.keeps (by rfl) (by rfl) (by rfl) H23.hR (by rfl) mi (by decide +kernel) ⟨rfl,rfl,rfl,rfl,rfl,by decide +kernel⟩ ?hw ?hc
 (case hw=>w_witness2)
 k_fill
 refine L2.aiF (l:=PySem.Challenge.rw_chancehall_k23_visits) (k:=12) (x := "_law_script") rfl rfl ⟨rfl,by decide,by decide⟩ (λw h Y=>(show(H23.KH w.params).In h from Y)) ?F
 case F =>
  intro w mg fa h KX G gL;refine⟨K23.Wa,?_,λbase f fd F=>K23.law_fn ?T base f fd F⟩
  .exact q_f
  case T =>
   refine⟨⟨31,99,118,410,431,450,469,486,571,135,136,393,400,428,447,466,483,528,535,556,568,96,115⟩,⟨q_c,q_c,q_c,q_c,q_c,q_c,q_c,q_c,q_c,q_c,q_c,by k_is,by k_is,by k_is,by k_is,by k_is,q_g,q_t,q_t,q_4,q_m,q_n,q_n,q_n,q_n,q_n,q_n,q_M,q_4,q_m,q_n,q_n,q_n,q_n,q_n,q_n,q_M,q_4,q_m,q_n,q_n,q_n,q_n,q_n,q_n,q_M,q_4,q_m,q_n,q_n,q_n,q_n,q_n,q_n,q_M,q_4,q_m,q_n,q_n,q_n,q_n,q_n,q_n,q_M,q_4,q_m,q_m,q_m,q_n,q_n,q_n,q_n,q_n,q_n,q_E,q_S,q_5,by k_is,by k_is,q_n,q_E,q_S,q_5,by k_is,by k_is,q_n,q_b,q_B,q_h,q_h,q_h,q_B,q_h,q_h,q_h,q_h,q_h,q_h,q_h,q_h,q_h,q_z,q_z,q_z,q_z,q_z,q_z,q_z,q_z,q_z,q_z,q_z,q_z,q_z,q_z,q_f,q_f,q_f,q_f,q_f,q_f,q_f,q_f,q_f,q_f,q_f,q_f,q_f,q_f,q_f,q_f,q_f,q_f,q_f,q_f,q_f,q_f,q_f,q_f,q_f,q_f,q_f,q_f,q_f,q_f,q_f,q_f,q_f,q_f,q_f,q_f,q_f,q_f,q_f,q_f,q_f,q_f,q_f,q_f,q_f,q_f,q_f,q_f,q_f,q_f,q_f,q_f,q_f,q_f,q_f,q_f,q_f,q_f,q_f,q_f,q_f,q_f,q_f,q_f,q_f,q_f,q_f⟩⟩
#print axioms PySem.Challenge.cw_chancehall_k23_visits_holds
