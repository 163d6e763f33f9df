import PyProof.Rows.All
import Wide.All
import OpenK.AllK
import Wide.FinOn
import Lean
import PyProof.EqAt
import PyProof.EqKinds
import PyProof.TupleCall
import PyProof.EqLayable
import KE.KIntText
import PyProof.EnumMake
import PyProof.EnumStmt
import PyProof.EnumFor
import PyProof.Rows.EnumRows
import PyProof.ExcInit
import PyProof.ExcClass2
import PyProof.InstStoreFacts
import KE.KLam
import KE.KNestM
import KE.KRevIter
import PySem.Challenge.RW_chancehall_k56_whole_bounds
set_option compiler.extract_closed false
def aj := @List.getElem?_eq_getElem
def ak := @List.length_map
def ao := @List.getElem?_eq_some_iff
def aq := @List.getElem?_map
def au := @List.getD_eq_getElem?_getD
def aA := @List.length_append
def aC := @List.mem_of_getElem?
def aD := @List.getElem?_append_right
def aF := @List.getElem?_append_left
def aG := @Nat.le_refl
def aH := @PySem.Heap.get?_push_of_some
def aJ := @List.mem_cons_of_mem
def aK := @PySem.Heap.lt_size
def aL := @Nat.le_trans
def aM := @List.getElem?_eq_none
def aN := @List.length_replicate
def aO := @List.mem_cons_self
def aP := @List.mem_append_right
def aQ := @Nat.ne_of_lt
def aR := @Nat.lt_of_lt_of_le
def aU := @List.getElem_mem
def aV := @List.getElem?_of_mem
def aW := @PySem.Heap.get?_push_size
def aX := @List.size_toArray
def aY := @List.length_take
def aZ := @Nat.zero_le
def bf := @List.map_append
def bw := @Bool.false_ne_true
open PySem.W (Frag instObj methodObj hideAll hideAll_size hideAll_get of_hideAll hideAll_none lookIn plainGet hasDictIn findIn handedIn plainGet_of isFn plainOver takerIn makesIn emptyDict keepIn specialIn mroIn kitOne kia_one kitx_list kitx_tuple callWith_K methodCall_KW codeIn nsIn mg_of excIn readsIn findCls envX kla_obj codeHdIn codeHd_of_K tabObj)
section
open PySem PySem.Spec PyProof.Rows
abbrev Γ:=List (Int×Int)
abbrev Δ:=List (Addr×Obj)
abbrev Θ:=List Value
abbrev Φ:=List Str
abbrev Ψ:=List Addr
abbrev Ω:=Option Value
abbrev Ξ:=Option Addr
abbrev Β:=Int×Int
abbrev Ε:=Value->Shared->Prop
def Zs:=@decide_eq_true
def Zp:=@decide_eq_false
def ZZ:=@if_neg
def ZY:=@if_pos
def ZU:=@wpAny_bind
def ZT:=@wpAny_pure
def ZH:=@congrArg
def Z3:=@Int.emod_nonneg
def YY:=@Int.emod_lt_of_pos
def YV:=@List.mem_map
def YU:=@List.mem_cons
def YR:=@List.mem_singleton
def Y1:=@List.mem_append
def Y2:=@Nat.le_of_lt
def Y3:=@Nat.lt_of_le_of_lt
def Xs:=@Nat.le_succ
def XZ:=@Int.mul_pos
def XY:=@Int.le_of_lt
def XX:=@Nat.lt_of_le_of_ne
def XW:=@Bool.false_eq_true
def XV:=@List.mem_replicate
def XU:=@Rat.intCast_mul
def XT:=@Rat.mul_comm
def XG:=@Nat.pow_le_pow_right
def X0:=@Int.natAbs_natCast
def X1:=@List.getElem?_replicate
def X2:=@Nat.lt_succ_self
def X9:=@Nat.le_add_right
def Wp:=@Nat.lt_irrefl
def WZ:=@Int.natCast_nonneg
def WV:=@List.append_assoc
def WU:=@Nat.not_lt_zero
def WS:=@Nat.lt_add_right
def WP:=@Int.ne_of_gt
def WJ:=@List.map_map
def WG:=@Nat.le_of_eq
def WH:=@List.length_range
def W1:=@Nat.mul_le_mul
def VZ:=@List.length_zip
def VY:=@PySem.boot_len
def VX:=@List.of_mem_zip
def VW:=@Int.natAbs_mul
def VU:=@Nat.one_pos
def VT:=@List.length_set
def VS:=@Nat.le_of_not_lt
def VQ:=@Rat.le_refl
def Up:=@List.getElem?_range
def UZ:=@Nat.le_of_lt_succ
def UY:=@Nat.pow_add
def UX:=@Nat.le_of_dvd
def UV:=@Nat.min_self
def UU:=@Nat.lt_trans
def UT:=@List.getElem?_set_ne
def US:=@List.not_mem_nil
def UR:=@List.getElem_map
def UQ:=@Rat.divInt_eq_div
def UP:=@Nat.mul_pos
def UK:=@Nat.ne_of_gt
def UH:=@Rat.mul_le_mul_of_nonneg_left
def U1:=@Nat.one_dvd
def U2:=@List.mem_append_left
def Tx:=@List.getElem?_set_self
def Tu:=@Rat.le_trans
def Ts:=@Int.natCast_mul
def Tk:=@List.map_congr_left
def Th:=@Rat.le_of_lt
def TZ:=@Nat.le_of_ble_eq_true
def TW:=@List.length_drop
def TU:=@Nat.succ_pos
def TR:=@Nat.dvd_trans
def TK:=@List.ext_getElem
def TH:=@Nat.mul_le_mul_left
def T1:=@Int.mul_one
def T2:=@Int.toNat_natCast
def JY:=@Nat.not_lt_of_le
def JU:=@Nat.mul_comm
def JS:=@List.drop_eq_nil_of_le
def JP:=@List.length_zipWith
def JJ:=@Int.one_mul
def Qr:=@Nat.dvd_refl
def QY:=@Int.lt_of_not_ge
def QU:=@Nat.add_sub_cancel_left
def QR:=@Int.gcd_dvd_right
def QQ:=@Rat.divInt_eq_divInt_iff
def QP:=@Rat.zero_divInt
def Q1:=@Nat.div_le_self
def Q2:=@List.getElem_range
def Q3:=@Rat.mul_nonneg
def Q4:=@Nat.le_add_left
def j':=@List.filterMap_cons
def ka:=@List.drop_eq_getElem_cons
def kb:=@List.lookup_append
def kc:=@Int.mul_ediv_cancel_left
def ke:=@Rat.divInt_add_divInt
def kh:=@Rat.divInt_mul_divInt
def ki:=@Nat.mul_le_mul_right
def kj:=@List.getLast?_eq_getElem?
def kl:=@Nat.sub_add_cancel
def km:=@Rat.divInt_nonneg
def lL:=@List.take_of_length_le
def lP:=@Int.fdiv_eq_ediv_of_nonneg
def l4:=@List.set_eq_of_length_le
def l5:=@Int.gcd_pos_of_ne_zero_right
def l6:=@Int.ediv_pos_of_pos_of_dvd
def l8:=@Nat.le_mul_of_pos_left
def l_:=@Rat.mul_le_mul_of_nonneg_right
end
set_option Elab.async false
set_option linter.all false
set_option maxRecDepth 100000
set_option maxHeartbeats 4000000
namespace L2.Once
noncomputable section
open PySem PySem.W
def z:Pos:=⟨0,0,0,0⟩
def tE:Obj:=⟨.type "tuple",none,.seq ⟨[]⟩ 0,⟨[]⟩⟩
def fE:Obj:=⟨.none,none,.fields ⟨[]⟩,⟨[]⟩⟩
def tN(t:Nat)(l:Φ):Obj:=⟨.type "tuple",none,.seq ⟨(l.zipIdx t).map λx=>.str x.1 x.2⟩ 0,⟨[]⟩⟩
def cO(n q:Str)(t:Nat)(l a f:Int)(r u:Nat):Obj:=⟨.type "code",none,.fields ⟨[.str n t,.str q (t+1),.str "/claim/cut.py" (t+2),.int l 0,.int a 0,.int 0 0,.int 0 0,.int f 0,.ref r,.bool true,.int 181 0,.ref (r+1),.none,.ref (r+2),.ref (r+3),.ref (r+4),.int u 0,.int l 0,.str "/claim/cut.py" (u+1)]⟩,⟨[]⟩⟩
def nj:Obj:={ cls:=.type "tuple",data:=.seq #[] }
def r8:Obj:={ cls:=.none,data:=.fields #[] }
def ng:Obj:={ cls:=.type "code",data:=.fields #[.str "<module>" 182,.str "<module>" 183,.str "/claim/cut.py" 184,.int 1 0,.int 0 0,.int 0 0,.int 0 0,.int 0 0,.ref 11,.bool false,.int 181 0,.ref 12,.none,.none,.none,.none,.int 185 0,.int 1 0,.str "/claim/cut.py" 186] }
def nf:Obj:={ cls:=.type "frame",slots:=#[some (.ref 13),some (.ref 3),some (.ref 3),none,some (.str "__main__" 164),none,some (.ref 0)] }
def cP(n q:Str)(t:Nat)(l a f:Int)(r u:Nat):Obj:=⟨.type "code",none,.fields ⟨[.str n t,.str q (t+1),.str "/claim/cut.py" (t+2),.int l 0,.int a 0,.int 0 0,.int 0 0,.int f 0,.ref r,.bool true,.int 181 0,.ref (r+1),.none,.none,.none,.ref (r+2),.int u 0,.int l 0,.str "/claim/cut.py" (u+1)]⟩,⟨[]⟩⟩
def dE(P:Params)(x:Str)(t:Nat)(v:Value):DictEntry:=⟨PyData.keyHash P x,.str x t,v⟩
abbrev lf(o:Obj):BT:=.node o .nil .nil
def tr(P:Params):BT:=.node (boot_o_0 P)
 (.node (boot_o_1 P) (.node (boot_o_3 P) (lf (boot_o_7 P)) (lf nj)) (.node (boot_o_5 P) (lf (boot_o_9 P)) (lf ng)))
 (.node (boot_o_2 P) (.node (boot_o_4 P) (lf (boot_o_8 P)) (lf r8)) (.node (boot_o_6 P) (lf (boot_o_10 P)) (lf nf)))
def S0(w:World)(os:OsState):Shared:=⟨boot_heap w.params,Array.mk [],boot_drawn,boot_toks,os⟩
def Sa(w:World)(os:OsState):Shared:=⟨⟨Array.mk [boot_o_0 w.params,boot_o_1 w.params,boot_o_2 w.params,boot_o_3 w.params,boot_o_4 w.params,boot_o_5 w.params,boot_o_6 w.params,boot_o_7 w.params,boot_o_8 w.params,boot_o_9 w.params,boot_o_10 w.params,nj,r8,ng,nf],{}⟩,Array.mk [],{},187,os⟩
def Sb(w:World)(os:OsState):SharedT:=⟨tr w.params,15,{},⟨[]⟩,{},187,os⟩
def env(p:Program):Env:={ scope:=p.main.scope,locals:=mainNs,globals:=mainNs,cells:=[],code:=.ref 13,frame:=some 14 }
def cE(p:Program):Code:=.body (behindTheImports p) (env p)
abbrev eH:Ω:=some (.ref 6)
abbrev B:List Frame:=[topFrame z]
def size(w:World):((boot_heap w.params).isNs mainGlobals&&(Array.mk [] : Array GenState).size==0,(boot_heap w.params).objs.size,(boot_heap w.params).nsMap mainGlobals "__annotations__")=(true,11,eH):=by
 rw[Fast.te8920871248978507458];kernel_rfl
def qz(p:Program)(w:World)(M:Nat)(S:SharedT)(l:List Stmt)(q:Pos)(G:Shared->Prop):Prop:=∃s,topRun treeTable p w 11 eH M S.abs (restOf l (env p) (cE p) q B)=some s/\G s
def qz.cut{p:Program}{w:World}{n M:Nat}{S f:SharedT}{e d:List Stmt}{q c:Pos}{G:Shared->Prop}(h:segRunT treeTable p w 11 eH 1 n S (piecesOf e (env p) (cE p) q B)=some (.next,f,cE p,c))(k:qz p w M f d c G):qz p w (n+M) S (e++d) q G :=
 let⟨s,a,b⟩:=k
 ⟨s,piece_app (segRun_of h) a,b⟩
def qz.cutAt{p:Program}{w:World}{n m M:Nat}{S b:SharedT}{l:List Stmt}{q a:Pos}{G:Shared->Prop}(h:segRunT treeTable p w 11 eH 1 n S (piecesOf (l.take m) (env p) (cE p) q B)=some (.next,b,cE p,a))(k:qz p w M b (l.drop m) a G):qz p w (n+M) S l q G:=by
 have:=qz.cut h k;rwa[List.take_append_drop]at this
def Good{b:Type}(p q:Program)(a:Φ)(f:Shared->Bool)(d:Shared->b)(e:World->b)(c:Bool)(w:World)(s:Shared):Prop :=
 (staticsOk (importedModules p.main.body) (boot_heap w.params) s.heap&&namesBound p s.heap&&gensDone s&&laidKept (boot_heap w.params) s.heap,openSeen q a (importedModules p.main.body) f c s,d s)=(true,openGood q a,e w)
def qz.last{p q:Program}{a:Φ}{o:Shared->Bool}{d:Type}{j:Shared->d}{m:World->d}{i:Bool}{w:World}{n k:Nat}{S:SharedT}{l:List Stmt}{h e:Pos}
 (b:(segRunT treeTable p w 11 eH 1 n S (piecesOf l (env p) (cE p) h B)).map (λr =>
    (r.1,r.2.2.1,r.2.2.2,(topRun treeTable p w 11 eH k r.2.1.abs ⟨doneF .next,cE p,e,B⟩).map λs =>
     (staticsOk (importedModules p.main.body) (boot_heap w.params) s.heap&&namesBound p s.heap&&gensDone s&&laidKept (boot_heap w.params) s.heap,openSeen q a (importedModules p.main.body) o i s,j s))) =
   some (.next,cE p,e,some (true,openGood q a,m w))):qz p w (n+k) S l h (Good p q a o j m i w):=by
 obtain⟨⟨f,A,c,z⟩,y,x⟩:=Option.map_eq_some_iff.mp b;obtain⟨rfl,rfl,rfl,v⟩ : f=.next/\c=cE p/\z=e/\_:=by simpa only[Prod.mk.injEq]using x
 obtain⟨s,u,t⟩:=Option.map_eq_some_iff.mp v;have g:=piece_app (rest:=[]) (segRun_of y) (piece_nil u);rw[List.append_nil]at g;exact⟨s,g,t⟩
def abb{p q:Program}{c:Φ}{l:Shared->Bool}{g:Type}{j:Shared->g}{k:World->g}{N:Nat}{i:Bool}{a b M:Nat}
 (D:∀w:World,(fencedOpening treeTable p w N).map (λs=>(s.heap,s.gens,s.drawn,s.toks))=some (boot_heap w.params,Array.mk [],boot_drawn,boot_toks))
 (f:∀w:World,(λos=>topGo treeTable p w 11 eH a (S0 w os) (topStub p))=λos=>some (Sa w os,⟨denote treeTable (cE p),cE p,z,B⟩))
 (e:∀w:World,(λos=>segRun treeTable p w 11 eH 1 b (Sa w os) (blockOf (behindTheImports p) (env p) (cE p) z B))=λos=>some (.next,(Sb w os).abs,cE p,z))
 (u:∀(w:World)(os:OsState),qz p w M (Sb w os) (behindTheImports p) z (Good p q c l j k i w))
 (le:Nat.ble (a+(b+M)) N=true):LeftO p q c l j k N i:=λw=>by
 obtain⟨⟨h,E,d,C,os⟩,G,F⟩:=Option.map_eq_some_iff.mp (D w);obtain⟨rfl,rfl,rfl,rfl⟩ : h=boot_heap w.params/\E=Array.mk []/\d=boot_drawn/\C=boot_toks:=by simpa using F
 obtain⟨o,n,m⟩ : _/\_/\_:=by simpa only[Prod.mk.injEq]using size w
 obtain⟨s,v,r⟩:=u w os;obtain⟨A,y,x⟩ : _/\_/\_:=by simpa only[Good,Prod.mk.injEq]using r
 have q2:=go_top (congrFun (f w) os) (piece_block (congrFun (e w) os) v);have q3:=topRun_mono (N-(a+(b+M))) _ _ _ _ q2;rw[show a+(b+M)+(N-(a+(b+M)))=N by have:=TZ le;omega]at q3;have t:topFrom treeTable p w N ⟨boot_heap w.params,Array.mk [],boot_drawn,boot_toks,os⟩=some s:=by
  unfold topFrom;dsimp only;rw[o,n,m,show topRun treeTable p w 11 eH N ⟨boot_heap w.params,Array.mk [],boot_drawn,boot_toks,os⟩ (topStub p)=some s from q3];show(match staticsOk (importedModules p.main.body) (boot_heap w.params) s.heap&&namesBound p s.heap&&gensDone s&&laidKept (boot_heap w.params) s.heap with|true=>_|false=>_)=_;rw[A]
 unfold openEnds;rw[G];show(topFrom treeTable p w N _).map _=_;rw[t];exact ZH some (Prod.ext y x)
end
end L2.Once
namespace L2
open PySem
def h_(s:Stmt):Arguments:=match s with
 |.FunctionDef _ a _ _ _ _ _ _ _ _=>a
 |_=>{ posonlyargs:=[],args:=[],vararg:=none,kwonlyargs:=[],kw_defaults:=[],kwarg:=none,defaults:=[] }
def dZ(s:Stmt):List Stmt:=match s with
 |.FunctionDef _ _ b _ _ _ _ _ _ _=>b
 |_=>[]
def bG(s:Stmt):Scope:=match s with
 |.FunctionDef _ _ _ _ _ _ a _ _ _=>a
 |_=>{ kind:=.function,names:=[],isGenerator:=false,isCoroutine:=false }
end L2
namespace K56
open PySem L2
def top(i:Nat):Stmt:=PySem.Challenge.pw_chancehall_k56_whole_bounds.main.body.getD i (.Pass ⟨0,0,0,0⟩)
def g_(i j:Nat):Stmt:=match top i with|.ClassDef _ _ _ b _ _ _ _ _ _ _=>b.getD j (.Pass ⟨0,0,0,0⟩)|_=>.Pass ⟨0,0,0,0⟩
abbrev fL:Φ:=["thing"]
abbrev Yz:Φ:=fL
abbrev cT:Φ:=["one","other"]
abbrev PL:Φ:=cT.append ["left","right","rest"]
abbrev mZ:Φ:=["top","bottom"]
abbrev Rj:Φ:=mZ.append ["common"]
abbrev jQ:Φ:=["thing"]
abbrev Dt:Φ:=jQ.append ["top","bottom"]
abbrev v8:Φ:=["one","other"]
abbrev Su:Φ:=v8
abbrev nG:Φ:=["one","other"]
abbrev SW:Φ:=nG
abbrev tH:Φ:=["one","other"]
abbrev _e:Φ:=tH
abbrev wV:Φ:=["one","other"]
abbrev Pf:Φ:=wV
abbrev lK:Φ:=["one","other"]
abbrev Uf:Φ:=lK
abbrev oN:Φ:=["fractions"]
abbrev Y4:Φ:=oN.append ["bottom","one"]
abbrev zy:Φ:=["fractions"]
abbrev RZ:Φ:=zy.append ["leveled"]
abbrev iH:Φ:=["fractions"]
abbrev sW:Φ:=iH.append ["found","one"]
abbrev yx:Φ:=["fractions"]
abbrev ZN:Φ:=yx.append ["found","one"]
abbrev jo:Φ:=["hall"]
abbrev wM:Φ:=jo
abbrev En:Φ:=["thing","many"]
abbrev XD:Φ:=En
abbrev gU:Φ:=["hall","plan"]
abbrev xK:Φ:=gU.append ["room","thing"]
abbrev jV:Φ:=["offer","tops"]
abbrev lE:Φ:=jV.append ["leveled"]
abbrev iw:Φ:=["hall","offer","leveled"]
abbrev CZ:Φ:=iw.append ["behind"]
abbrev rE:Φ:=["tops","bottom"]
abbrev Wa:Φ:=rE.append ["common","top"]
abbrev nP:Φ:=["row","often"]
abbrev A_:Φ:=nP
abbrev pR:Φ:=["row","other","often"]
abbrev DY:Φ:=pR.append ["bottom","common","own","added","tops"]
abbrev oM:Φ:=["leveled","step"]
abbrev zZ:Φ:=oM.append ["row"]
abbrev jZ:Φ:=["row","column"]
abbrev zK:Φ:=jZ
abbrev iZ:Φ:=["leveled"]
abbrev jP:Φ:=iZ
abbrev lV:Φ:=["leveled","place","column"]
abbrev Eb:Φ:=lV.append ["row"]
abbrev uT:Φ:=["leveled","steps","step"]
abbrev T7:Φ:=uT
abbrev n6:Φ:=["leveled","steps","place","found","column"]
abbrev Jd:Φ:=n6.append ["first"]
abbrev jd:Φ:=["leveled","steps","place","column"]
abbrev zU:Φ:=jd.append ["row","often"]
abbrev sY:Φ:=["rows","wide"]
abbrev Hl:Φ:=sY.append ["leveled","steps","place","column","found"]
abbrev pN:Φ:=["rows"]
abbrev Ym:Φ:=pN
abbrev jD:Φ:=["rows","rights"]
abbrev um:Φ:=jD
abbrev n8:Φ:=["end","wide"]
abbrev Bb:Φ:=n8.append ["begins","row","columns"]
abbrev rR:Φ:=["end","begins","wide"]
abbrev HB:Φ:=rR.append ["row"]
abbrev nF:Φ:=["end","begins","wide"]
abbrev Iu:Φ:=nF.append ["answer","row","column"]
abbrev jT:Φ:=["many"]
abbrev lR:Φ:=jT
abbrev jz:Φ:=["rows","rights"]
abbrev Cv:Φ:=jz.append ["wide","end","begins"]
abbrev jc:Φ:=["hall","plan"]
abbrev tG:Φ:=jc
abbrev ni:Φ:=["share","chosen"]
abbrev Jb:Φ:=ni.append ["rows","room","offer","behind","chance"]
abbrev jW:Φ:=["hall","plan"]
abbrev Ax:Φ:=jW.append ["chosen","pays"]
abbrev jJ:Φ:=["seen","door"]
abbrev uN:Φ:=jJ.append ["most"]
abbrev rD:Φ:=["hall","plan","worths"]
abbrev Ml:Φ:=rD.append ["leveled","told","room","door","seen"]
abbrev pP:Φ:=["hall","plan"]
abbrev Dk:Φ:=pP.append ["told","coming"]
abbrev rW:Φ:=["hall"]
abbrev abI:Φ:=rW
abbrev lQ:Φ:=["many"]
abbrev Ru:Φ:=lQ
abbrev sX:Φ:=["raised","bottom"]
abbrev G8:Φ:=sX
abbrev gQ:Φ:=["hall","ahead"]
abbrev vY:Φ:=gQ.append ["leveled","told","room","seen"]
abbrev j7:Φ:=["first","many","follow"]
abbrev qD:Φ:=j7.append ["told"]
abbrev dI:Φ:=["hall","many"]
abbrev jf:Φ:=dI
abbrev gA:Φ:=["many"]
abbrev M8:Φ:=gA
abbrev yO:Φ:=["ahead","last"]
abbrev Q_:Φ:=yO
abbrev sG:Φ:=["share","gain"]
abbrev Hz:Φ:=sG
abbrev nq:Φ:=["hall","many"]
abbrev pX:Φ:=nq.append ["rounds","last","gained","low","high"]
abbrev lZ:Φ:=["hall","many"]
abbrev Ri:Φ:=lZ
abbrev mK:Φ:=["thing"]
abbrev Ig:Φ:=mK
abbrev jr:Φ:=["name","pay"]
abbrev wR:Φ:=jr
abbrev eN:Φ:=["room"]
abbrev Fo:Φ:=eN
abbrev gB:Φ:=["chance"]
abbrev KY:Φ:=gB
abbrev jF:Φ:=["pairs"]
abbrev uO:Φ:=jF.append ["room","chance"]
abbrev jK:Φ:=["pairs"]
abbrev Dg:Φ:=jK.append ["chances","room","chance"]
abbrev jM:Φ:=["share"]
abbrev N8:Φ:=jM
abbrev lJ:Φ:=["rooms"]
abbrev vO:Φ:=lJ.append ["numbers","room","name"]
abbrev iy:Φ:=["door","numbers"]
abbrev xV:Φ:=iy.append ["numbered","name","chance"]
abbrev oK:Φ:=["doors","numbers"]
abbrev Jf:Φ:=oK.append ["taken","told","door"]
abbrev BJ:Φ:=["_law_script","_law_k"]
abbrev YQ:Φ:=BJ
abbrev jk:Φ:=["_law_cell_here","_law_many"]
abbrev Wx:Φ:=jk.append ["_law_found","_law_number","_law_digits","_law_k"]
abbrev p8:Φ:=["_law_one","_law_other"]
abbrev DH:Φ:=p8.append ["_law_low","_law_high"]
abbrev oU:Φ:=["_law_top","_law_bottom"]
abbrev Vr:Φ:=oU.append ["_law_common"]
abbrev m8:Φ:=["_law_found"]
abbrev yU:Φ:=m8.append ["_law_number"]
abbrev jm:Φ:=["_law_found","_law_many"]
abbrev wW:Φ:=jm
abbrev Gg:Φ:=["_law_one","_law_other"]
abbrev Of:Φ:=Gg
abbrev yV:Φ:=["_law_cell_here","_law_many"]
abbrev wH:Φ:=yV.append ["_law_letters","_law_xs","_law_base","_law_at","_law_step"]
abbrev yS:Φ:=["_law_cell_here","_law_small"]
abbrev Y0:Φ:=yS.append ["_law_xs","_law_bottom"]
abbrev Mu:Φ:=["_law_cell_here","_law_x","_law_y","_law_small"]
abbrev C2:Φ:=Mu
abbrev Ek:Φ:=["_law_cell_here","_law_many","_law_small"]
abbrev vK:Φ:=Ek.append ["_law_xs","_law_rooms","_law_sort","_law_pairs","_law_bottom","_law_part","_law_weights"]
abbrev yp:Φ:=["_law_script","_law_at","_law_many","_law_small"]
abbrev SM:Φ:=yp.append ["_law_rooms","_law_first","_law_cells","_law_cell_here","_law_room","_law_door_here"]
abbrev Ak:Φ:=["_law_title","_law_door_here","_law_names_here"]
abbrev Em:Φ:=Ak.append ["_law_told","_law_sort","_law_pay_here","_law_pairs"]
abbrev GR:Φ:=["_law_cell_here","_law_share_here","_law_rooms"]
abbrev Yv:Φ:=GR.append ["_law_names_here","_law_found","_law_k","_law_titles"]
abbrev abf:Φ:=["_law_cell_here","_law_rooms"]
abbrev acW:Φ:=abf.append ["_law_xs","_law_found","_law_k"]
abbrev uY:Φ:=["_law_one","_law_other"]
abbrev SZ:Φ:=uY
abbrev Gx:Φ:=["_law_cell_here"]
abbrev XF:Φ:=Gx.append ["_law_xs"]
abbrev Bj:Φ:=["_law_one","_law_other"]
abbrev N1:Φ:=Bj
abbrev jg:Φ:=["_law_some","_law_best"]
abbrev vG:Φ:=jg
abbrev zQ:Φ:=["_law_some"]
abbrev SJ:Φ:=zQ
abbrev uX:Φ:=["_law_share_here","_law_one","_law_other"]
abbrev Vs:Φ:=uX.append ["_law_far"]
abbrev u_:Φ:=["_law_hall_here","_law_many","_law_told","_law_best","_law_last"]
abbrev yt:Φ:=u_.append ["_law_size_here","_law_worths","_law_lows","_law_highs"]
abbrev Rm:Φ:=["_law_script"]
abbrev pj:Φ:=Rm.append ["_law_size_here","_law_share_here","_law_rooms","_law_hall_here","_law_xs","_law_many","_law_best","_law_some","_law_told","_law_k"]
abbrev j8:Φ:=["self","name","pay"]
abbrev yE:Φ:=j8
abbrev nR:Φ:=["self"]
abbrev Vx:Φ:=nR
abbrev Fv:Φ:=["self","room"]
abbrev dU:Φ:=Fv
abbrev oG:Φ:=["self","name","pay","room"]
abbrev zV:Φ:=oG
abbrev gW:Φ:=["self","name","pay","pairs"]
abbrev wJ:Φ:=gW
abbrev oE:Φ:=["self","name","pay","chance","room","other"]
abbrev IK:Φ:=oE
abbrev m7:Φ:=["self","name","pay","rooms"]
abbrev yK:Φ:=m7
abbrev oH:Φ:=["self","share","rooms"]
abbrev yF:Φ:=oH
abbrev fu:Φ:=["self"]
abbrev W7:Φ:=fu
abbrev O5:Φ:=["self","name"]
abbrev Fq:Φ:=O5
abbrev fX:Φ:=["self","room"]
abbrev Ft:Φ:=fX
abbrev JB:Φ:=["self","room","name"]
abbrev zA:Φ:=JB
abbrev dY:Φ:=["self","room"]
abbrev uM:Φ:=dY
end K56
namespace H56
open PySem PySem.W L2 L2.Once K56
abbrev p:Program:=PySem.Challenge.pw_chancehall_k56_whole_bounds
noncomputable section
noncomputable def dR(P:Params)(x:Str)(t m:Nat):DictEntry:=dE P x t (.ref m)
noncomputable def wD(l:List DictEntry)(n:Nat):Obj:=⟨.type "dict",none,.dict ⟨l⟩ n,⟨[]⟩⟩
noncomputable def i3(a b:Nat)(c:Nat)(l:Θ):Θ:=.int a 0::.int b 0::.ref c::l
noncomputable def nd(o:Obj)(l r:BT):BT:=.node o l r
noncomputable def n1(o x:Obj):BT:=.node o (lf x) .nil
noncomputable def n2(o x y:Obj):BT:=.node o (lf x) (lf y)
def wA:Obj:=⟨.type "builtin_function_or_method",none,.fields ⟨[.builtin "type.__prepare__",.type "type"]⟩,⟨[]⟩⟩
def wB(n:Nat):Obj:=⟨.type "builtin_function_or_method",none,.fields ⟨[.builtin "object.__init_subclass__",.ref n]⟩,⟨[]⟩⟩
def wC(n:Str)(t l r u:Nat):Obj:=⟨.type "code",none,.fields ⟨[.str n t,.str n (t+1),.str "/claim/cut.py" (t+2),.int l 0,.int 0 0,.int 0 0,.int 0 0,.int 0 0,.ref r,.bool false,.int 181 0,.ref (r+1),.none,.none,.none,.none,.int u 0,.int l 0,.str "/claim/cut.py" (u+1)]⟩,⟨[]⟩⟩
def wF(c d:Nat)(n:Str)(t:Nat):Obj:=⟨.type "frame",none,.plain,⟨[some (.ref c),some (.ref 3),some (.ref d),none,some (.str n t),none,some (.ref 0)]⟩⟩
def wG(t n:Nat):Obj:=⟨.type "getset_descriptor",none,.fields ⟨[.str "__weakref__" t,.ref n,.builtin "ExceptionGroup.__weakref__",.none]⟩,⟨[]⟩⟩
def wK(n:Str)(b m:Θ)(d:Nat)(s:Θ)(o:Ω)(t u:Nat)(x:String):Obj:=⟨.type "type",none,.cls ⟨n,b,m,d,n,true,[],s,false,none,false⟩,⟨[o,none,some (.str n t),some (.str n u),some (.builtin x),some (.bool true)]⟩⟩
def wS(n:Nat):Obj:=⟨.type "super",none,.fields ⟨[.ref n,.ref n,.ref n]⟩,⟨[]⟩⟩
def wT(n:Nat):Obj:=⟨.type "tuple",none,.seq ⟨[.ref n]⟩ 0,⟨[]⟩⟩
def fO(n q:Str)(s:Stmt)(m:Value)(c:Nat):Obj:=⟨.type "function",none,.func (fnOf n q (h_ s) (dZ s) (bG s) .none .none .none m none (.ref c) .none),⟨[]⟩⟩
def fT(n q:Str)(s:Stmt):Obj:=⟨.none,none,.func { fnOf n q (h_ s) (dZ s) (bG s) .none .none .none .none none .none .none with globals:=0,builtins:=0 },⟨[]⟩⟩
def fV(n:Str)(k:Nat)(m:Value)(c:Nat):Obj:=fO n n (top k) m c
def fU(n:Str)(k:Nat):Obj:=fT n n (top k)
def cU(n:Str)(t:Nat)(l a f:Int)(r u:Nat):Obj:=cO n n t l a f r u
def cV(n:Str)(t:Nat)(l a f:Int)(r u:Nat):Obj:=cP n n t l a f r u
def dM(P:Params)(l:List (String×Nat×Nat)):List DictEntry:=l.map λx=>dR P (Str.ofString x.1) x.2.1 x.2.2
def dC(P:Params)(a:Nat)(m:Value)(n:Str)(l:Int)(r:List DictEntry):List DictEntry:=dE P "__module__" a m::dE P "__qualname__" (a+2) (.str n (a+1))::dE P "__firstlineno__" (a+4) (.int l (a+3))::r
def dF(P:Params)(a:Nat)(m:Value)(l:Int)(r:List DictEntry):List DictEntry:=dE P "__module__" a m::dE P "__firstlineno__" (a+4) (.int l (a+3))::r
def wX(n:Str)(c d o t u:Nat):Obj:=wK n [.ref 31] [.ref c,.ref 31,.type "ValueError",.type "Exception",.type "BaseException",.type "object"] d [] (some (.ref o)) t u "ValueError.__new__"
def GS:Value:=.str "__main__" 164
def dP:Value:=.str "chancehall.errors" 194
def r_:Value:=.str "chancehall.wholes" 328
def g4:Value:=.str "chancehall.ratios" 348
def k3:Value:=.str "chancehall.levels" 414
def iS:Value:=.str "chancehall.plans" 448
def ft:Value:=.str "chancehall.papers" 490
def g0:Value:=.str "chancehall.solving" 582
def nr:Value:=.str "chancehall.worths" 642
def kQ:Value:=.str "chancehall.mending" 669
def i9:Value:=.str "chancehall.rounds" 703
def jS:Value:=.str "chancehall.bounds" 747
def Kn:Value:=.str "chancehall.words" 784
def tL:Value:=.str "chancehall.doors" 794
def Ip:Value:=.str "chancehall.halls" 981
def qj:Value:=.str "law_chancehall_k56_whole_bounds" 1096
noncomputable def zM(P:Params)(l:List (String×Nat×Nat))(n:Nat):Obj:=wD (dE P "__name__" 165 qj::dE P "__doc__" 166 .none::dE P "__package__" 167 .none::dE P "__loader__" 168 (.builtin "__main__.__loader__#opaque")::dE P "__spec__" 169 .none::dR P "__annotations__" 170 6::dR P "__builtins__" 171 4::dE P "__file__" 173 (.str "/claim/cut.py" 172)::dE P "__cached__" 174 .none::dM P [("_wall",193,21),("HallError",213,31),("NoNumber",229,44),("NoName",245,56),("NoChance",261,68),("NoShare",277,80),("NoRoom",302,99),("NoPlan",327,118),("is_whole",336,127),("divisor",347,134),("NOUGHT",352,135),("ONE",355,136),("ratio",364,143),("is_ratio",373,150),("plus",381,157),("minus",389,164),("times",397,171),("over",405,178),("under",413,185),("level",421,190),("total",429,197),("greatest",438,204),("least",447,211),("first_plan",455,216),("fits",463,223),("check_plan",473,230),("behind_door",479,235),("raised_look",489,242),("lowest",497,247),("row_times",503,252),("row_plus",509,257),("take_step",518,264),("number_at",526,271),("fractions_of",532,276),("first_from",542,283),("go_on",551,290),("begin_row",563,297),("clear_column",575,304),("reduced",581,309),("width_of",590,316),("with_rights",596,321),("begins_of",602,326),("odd_row",612,333),("answer_of",624,340),("single_rows",630,345),("only_answer",641,352),("chosen_doors",649,357),("left_rows",662,364),("worths_of",668,369),("better_door",679,376),("mended",685,381),("mendings",695,388),("best_of",702,395)]++dE P "MOST" 706 (.int 40 705)::dM P [("check_many",713,402),("lowered",721,409),("best_round",727,414),("rounds_behind",737,421),("best_rounds",746,428),("check_behind",755,435),("gains",761,440),("to_come",769,447),("bounds_of",775,452),("round_plan",783,459)]++dE P "LONGEST_WORD" 787 (.int 8 786)::dM P ([("is_word",793,464),("check_head",803,471),("check_room_name",810,478),("check_chance",817,485),("check_pairs",823,490),("joined_ways",829,495),("Door",876,526),("Sure",903,547),("Mixed",930,566),("Toss",958,585),("Even",980,602),("check_share",989,611),("numbers_of",999,618),("numbered_ways",1010,625),("offers_of",1021,632),("Hall",1095,687),("_law_cell",1105,698),("_law_stream",1117,705),("_law_gcd",1127,712),("_law_ratio",1136,719),("_law_is_ratio",1144,726),("_law_are_ratios",1150,731),("_law_same",1158,738),("_law_names",1164,743),("_law_share",1174,750),("_law_pay",1184,757),("_law_door",1190,762),("_law_doors",1196,767),("_law_built",1202,772),("_law_hall",1208,777),("_law_chosen",1219,784),("_law_below",1227,791),("_law_size",1235,798),("_law_less",1243,805),("_law_none_above",1249,810),("_law_alike",1255,815),("_law_nearer",1265,822)]++l)++[]) n
def Hd(P:Params):Obj:=zM P [] 111
def r3:Obj:=fV "_wall" 0 GS 20
def r2:Obj:=⟨.type "tuple",none,.seq ⟨.type "ValueError"::[]⟩ 0,⟨[]⟩⟩
def GN(P:Params):Obj:=wD (dC P 203 dP "HallError" 5 <|dR P "__static_attributes__" 208 29::[]) 4
def rX(P:Params):Obj:=wD (dF P 203 dP 5 <|dR P "__static_attributes__" 208 29::dR P "__weakref__" 210 32::dE P "__doc__" 211 .none::[]) 3
def rV:Obj:=wK "HallError" [.type "ValueError"] [.ref 31,.type "ValueError",.type "Exception",.type "BaseException",.type "object"] 30 [.ref 44,.ref 56,.ref 68,.ref 80,.ref 99,.ref 118] (some (.ref 22)) 196 204 "ValueError.__new__"
def GM(P:Params):Obj:=wD (dC P 221 dP "NoNumber" 7 <|dR P "__static_attributes__" 226 42::[]) 4
def rS(P:Params):Obj:=wD (dF P 221 dP 7 <|dR P "__static_attributes__" 226 42::dE P "__doc__" 227 .none::[]) 2
def rL:Obj:=wX "NoNumber" 44 43 35 214 222
def GL(P:Params):Obj:=wD (dC P 237 dP "NoName" 9 <|dR P "__static_attributes__" 242 54::[]) 4
def rs(P:Params):Obj:=wD (dF P 237 dP 9 <|dR P "__static_attributes__" 242 54::dE P "__doc__" 243 .none::[]) 2
def rr:Obj:=wX "NoName" 56 55 47 230 238
def GI(P:Params):Obj:=wD (dC P 253 dP "NoChance" 11 <|dR P "__static_attributes__" 258 66::[]) 4
def rq(P:Params):Obj:=wD (dF P 253 dP 11 <|dR P "__static_attributes__" 258 66::dE P "__doc__" 259 .none::[]) 2
def ro:Obj:=wX "NoChance" 68 67 59 246 254
def GH(P:Params):Obj:=wD (dC P 269 dP "NoShare" 13 <|dR P "__static_attributes__" 274 78::[]) 4
def rn(P:Params):Obj:=wD (dF P 269 dP 13 <|dR P "__static_attributes__" 274 78::dE P "__doc__" 275 .none::[]) 2
def rm:Obj:=wX "NoShare" 80 79 71 262 270
def GG(P:Params):Obj:=wD (dC P 285 dP "NoRoom" 15 <|dR P "__init__" 297 96::dR P "__static_attributes__" 299 97::[]) 5
def rk:Obj:=cO "__init__" "NoRoom.__init__" 290 17 2 3 90 295
def rj:Obj:=fO "__init__" "NoRoom.__init__" (g_ 7 0) dP 95
def rh(P:Params):Obj:=wD (dF P 285 dP 15 <|dR P "__init__" 297 96::dR P "__static_attributes__" 299 97::dE P "__doc__" 300 .none::[]) 2
def rg:Obj:=wX "NoRoom" 99 98 83 278 286
def IF(P:Params):Obj:=wD (dC P 310 dP "NoPlan" 20 <|dR P "__init__" 322 115::dR P "__static_attributes__" 324 116::[]) 5
def t6:Obj:=cO "__init__" "NoPlan.__init__" 315 22 2 3 109 320
def vp:Obj:=fO "__init__" "NoPlan.__init__" (g_ 8 0) dP 114
def tj(P:Params):Obj:=wD (dF P 310 dP 20 <|dR P "__init__" 322 115::dR P "__static_attributes__" 324 116::dE P "__doc__" 325 .none::[]) 2
def AR:Obj:=wX "NoPlan" 118 117 102 303 311
def Bi:Obj:=fV "is_whole" 10 r_ 126
def AC:Obj:=tN 340 PL
def AY:Obj:=fV "divisor" 11 r_ 133
def BG:Obj:=⟨.type "tuple",none,.seq ⟨.int 0 350::.int 1 351::[]⟩ 0,⟨[]⟩⟩
def sA:Obj:=⟨.type "tuple",none,.seq ⟨.int 1 353::.int 1 354::[]⟩ 0,⟨[]⟩⟩
def A':Obj:=fV "ratio" 15 g4 142
def vl:Obj:=fV "is_ratio" 16 g4 149
def yf:Obj:=fV "plus" 17 g4 156
def ye:Obj:=fV "minus" 18 g4 163
def v4:Obj:=fV "times" 19 g4 170
def ue:Obj:=fV "over" 20 g4 177
def yo:Obj:=fV "under" 21 g4 184
def tu:Obj:=fV "level" 23 k3 189
def AQ:Obj:=fV "total" 24 k3 196
def zr:Obj:=fV "greatest" 25 k3 203
def AI:Obj:=fV "least" 26 k3 210
def vE:Obj:=cV "first_plan" 450 88 1 3 212 453
def Co:Obj:=fV "first_plan" 28 iS 215
def BA:Obj:=fV "fits" 29 iS 222
def Cc:Obj:=cU "check_plan" 464 94 2 3 224 471
def A4:Obj:=fV "check_plan" 30 iS 229
def uv:Obj:=cV "behind_door" 474 101 2 3 231 477
def A5:Obj:=fV "behind_door" 31 iS 234
def sP:Obj:=tN 483 CZ
def t9:Obj:=cU "raised_look" 480 104 3 3 236 487
def CM:Obj:=fV "raised_look" 32 iS 241
def B8:Obj:=fV "lowest" 34 ft 246
def B5:Obj:=cV "row_times" 498 113 2 3 248 501
def Ap:Obj:=fV "row_times" 35 ft 251
def zz:Obj:=cV "row_plus" 504 115 3 3 253 507
def yd:Obj:=fV "row_plus" 36 ft 256
def AN:Obj:=cU "take_step" 510 122 2 3 258 516
def wm:Obj:=fV "take_step" 37 ft 263
def B4:Obj:=cU "number_at" 519 131 2 3 265 524
def tF:Obj:=fV "number_at" 38 ft 270
def y':Obj:=cV "fractions_of" 527 133 1 3 272 530
def Bz:Obj:=fV "fractions_of" 39 ft 275
def y8:Obj:=tN 536 Eb
def AE:Obj:=cU "first_from" 533 135 3 3 277 540
def v6:Obj:=fV "first_from" 40 ft 282
def AO:Obj:=fV "go_on" 41 ft 289
def B6:Obj:=tN 555 Jd
def v5:Obj:=cU "begin_row" 552 143 5 3 291 561
def vt:Obj:=fV "begin_row" 42 ft 296
def u1:Obj:=tN 567 zU
def sM:Obj:=cU "clear_column" 564 149 4 3 298 573
def AX:Obj:=fV "clear_column" 43 ft 303
def BH:Obj:=fV "reduced" 44 ft 308
def u8:Obj:=cU "width_of" 584 166 1 3 310 588
def A2:Obj:=fV "width_of" 46 g0 315
def wy:Obj:=cV "with_rights" 591 170 2 3 317 594
def BD:Obj:=fV "with_rights" 47 g0 320
def zb:Obj:=cV "begins_of" 597 172 2 3 322 600
def Cf:Obj:=fV "begins_of" 48 g0 325
def u2:Obj:=fV "odd_row" 49 g0 332
def AW:Obj:=tN 616 Iu
def w8:Obj:=cU "answer_of" 613 184 3 3 334 622
def sO:Obj:=fV "answer_of" 50 g0 339
def CH:Obj:=cV "single_rows" 625 189 1 3 341 628
def CA:Obj:=fV "single_rows" 51 g0 344
def sF:Obj:=tN 634 Cv
def Ct:Obj:=cU "only_answer" 631 191 2 3 346 639
def yy:Obj:=fV "only_answer" 52 g0 351
def vj:Obj:=cV "chosen_doors" 644 199 2 3 353 647
def Au:Obj:=fV "chosen_doors" 54 nr 356
def ss:Obj:=tN 653 Jb
def BM:Obj:=cU "left_rows" 650 201 2 3 358 660
def BO:Obj:=fV "left_rows" 55 nr 363
def xx:Obj:=cV "worths_of" 663 208 2 3 365 666
def u3:Obj:=fV "worths_of" 56 nr 368
def uC:Obj:=cU "better_door" 671 214 2 3 370 677
def AM:Obj:=fV "better_door" 58 kQ 375
def w':Obj:=fV "mended" 59 kQ 380
def uS:Obj:=cU "mendings" 686 227 2 3 382 693
def v1:Obj:=fV "mendings" 60 kQ 387
def t8:Obj:=fV "best_of" 61 kQ 394
def w4:Obj:=cU "check_many" 707 239 1 3 396 711
def ut:Obj:=fV "check_many" 64 i9 401
def wt:Obj:=fV "lowered" 65 i9 408
def BC:Obj:=cV "best_round" 722 244 2 3 410 725
def BY:Obj:=fV "best_round" 66 i9 413
def vT:Obj:=cU "rounds_behind" 728 251 3 3 415 735
def sL:Obj:=fV "rounds_behind" 67 i9 420
def wh:Obj:=cU "best_rounds" 738 256 2 3 422 744
def uu:Obj:=fV "best_rounds" 68 i9 427
def sK:Obj:=cU "check_behind" 749 260 1 3 429 753
def va:Obj:=fV "check_behind" 70 jS 434
def AL:Obj:=fV "gains" 71 jS 439
def za:Obj:=fV "to_come" 72 jS 446
def A8:Obj:=cV "bounds_of" 770 267 2 3 448 773
def AK:Obj:=fV "bounds_of" 73 jS 451
def Cb:Obj:=cU "round_plan" 776 277 2 3 453 781
def zv:Obj:=fV "round_plan" 74 jS 458
def vv:Obj:=fV "is_word" 77 Kn 463
def v3:Obj:=cU "check_head" 796 287 2 3 465 801
def A6:Obj:=fV "check_head" 79 tL 470
def t4:Obj:=cU "check_room_name" 804 292 1 3 472 808
def CC:Obj:=fV "check_room_name" 80 tL 477
def zq:Obj:=cU "check_chance" 811 295 1 3 479 815
def tm:Obj:=fV "check_chance" 81 tL 484
def CI:Obj:=cV "check_pairs" 818 298 1 3 486 821
def ua:Obj:=fV "check_pairs" 82 tL 489
def ti:Obj:=cV "joined_ways" 824 304 1 3 491 827
def AD:Obj:=fV "joined_ways" 83 tL 494
def Kk(P:Params):Obj:=wD (dC P 837 tL "Door" 309 <|dM P [("__init__",850,509),("ways",857,516),("chance_to",865,523),("__static_attributes__",869,524)]++[]) 7
def A7:Obj:=cO "__init__" "Door.__init__" 842 311 3 3 503 848
def vS:Obj:=fO "__init__" "Door.__init__" (g_ 84 0) tL 508
def B':Obj:=fO "ways" "Door.ways" (g_ 84 1) tL 515
def B1:Obj:=cO "chance_to" "Door.chance_to" 858 320 2 3 517 863
def t7:Obj:=fO "chance_to" "Door.chance_to" (g_ 84 2) tL 522
def sQ(P:Params):Obj:=wD (dF P 837 tL 309 <|dM P [("__init__",850,509),("ways",857,516),("chance_to",865,523),("__static_attributes__",869,524),("__dict__",871,527),("__weakref__",873,528)]++dE P "__doc__" 874 .none::[]) 4
def uA:Obj:=wK "Door" [.type "object"] [.ref 526,.type "object"] 525 [.ref 547,.ref 566] none 830 838 "object.__new__"
def uj:Obj:=⟨.type "getset_descriptor",none,.fields ⟨.str "__dict__" 870::.ref 526::.builtin "function.__dict__"::.builtin "function.__dict__#set"::[]⟩,⟨[]⟩⟩
def K3(P:Params):Obj:=wD (dC P 884 tL "Sure" 322 <|dR P "__init__" 898 544::dR P "__static_attributes__" 900 545::[]) 5
def BN:Obj:=cO "__init__" "Sure.__init__" 889 324 4 3 538 896
def vn:Obj:=fO "__init__" "Sure.__init__" (g_ 85 0) tL 543
def vF(P:Params):Obj:=wD (dF P 884 tL 322 <|dR P "__init__" 898 544::dR P "__static_attributes__" 900 545::dE P "__doc__" 901 .none::[]) 2
def tT:Obj:=wK "Sure" [.ref 526] [.ref 547,.ref 526,.type "object"] 546 [] (some (.ref 531)) 877 885 "object.__new__"
def LF(P:Params):Obj:=wD (dC P 911 tL "Mixed" 328 <|dR P "__init__" 925 563::dR P "__static_attributes__" 927 564::[]) 5
def tP:Obj:=cO "__init__" "Mixed.__init__" 916 330 4 3 557 923
def vJ:Obj:=fO "__init__" "Mixed.__init__" (g_ 86 0) tL 562
def so(P:Params):Obj:=wD (dF P 911 tL 328 <|dR P "__init__" 925 563::dR P "__static_attributes__" 927 564::dE P "__doc__" 928 .none::[]) 2
def B7:Obj:=wK "Mixed" [.ref 526] [.ref 566,.ref 526,.type "object"] 565 [.ref 585,.ref 602] (some (.ref 550)) 904 912 "object.__new__"
def KB(P:Params):Obj:=wD (dC P 938 tL "Toss" 334 <|dR P "__init__" 954 582::dR P "__static_attributes__" 955 583::[]) 5
def ui:Obj:=tN 946 IK
def By:Obj:=cO "__init__" "Toss.__init__" 943 336 6 3 576 952
def s_:Obj:=fO "__init__" "Toss.__init__" (g_ 87 0) tL 581
def uk(P:Params):Obj:=wD (dF P 938 tL 334 <|dR P "__init__" 954 582::dR P "__static_attributes__" 955 583::dE P "__doc__" 956 .none::[]) 2
def B9:Obj:=wK "Toss" [.ref 566] [.ref 585,.ref 566,.ref 526,.type "object"] 584 [] (some (.ref 569)) 931 939 "object.__new__"
def IH(P:Params):Obj:=wD (dC P 966 tL "Even" 340 <|dR P "__init__" 976 599::dR P "__static_attributes__" 977 600::[]) 5
def AB:Obj:=cP "__init__" "Even.__init__" 971 342 4 3 595 974
def uB:Obj:=fO "__init__" "Even.__init__" (g_ 88 0) tL 598
def vi(P:Params):Obj:=wD (dF P 966 tL 340 <|dR P "__init__" 976 599::dR P "__static_attributes__" 977 600::dE P "__doc__" 978 .none::[]) 2
def sx:Obj:=wK "Even" [.ref 566] [.ref 602,.ref 566,.ref 526,.type "object"] 601 [] (some (.ref 588)) 959 967 "object.__new__"
def y9:Obj:=cU "check_share" 983 345 1 3 605 987
def sT:Obj:=fV "check_share" 90 Ip 610
def A9:Obj:=cU "numbers_of" 990 348 1 3 612 997
def yn:Obj:=fV "numbers_of" 91 Ip 617
def Bn:Obj:=tN 1003 xV
def ve:Obj:=cU "numbered_ways" 1000 356 2 3 619 1008
def sD:Obj:=fV "numbered_ways" 92 Ip 624
def BV:Obj:=tN 1014 Jf
def tt:Obj:=cU "offers_of" 1011 363 2 3 626 1019
def CS:Obj:=fV "offers_of" 93 Ip 631
def LN(P:Params):Obj:=wD (dC P 1029 Ip "Hall" 372 <|dM P [("__init__",1039,644),("size",1046,651),("names",1053,658),("place",1061,665),("check_room",1069,672),("door_at",1078,679),("offers",1084,684),("__static_attributes__",1088,685)]++[]) 11
def AZ:Obj:=cP "__init__" "Hall.__init__" 1034 374 3 3 640 1037
def x_:Obj:=fO "__init__" "Hall.__init__" (g_ 94 0) Ip 643
def tq:Obj:=fO "size" "Hall.size" (g_ 94 1) Ip 650
def v2:Obj:=cO "names" "Hall.names" 1047 383 1 3 652 1051
def vd:Obj:=fO "names" "Hall.names" (g_ 94 2) Ip 657
def AU:Obj:=cO "place" "Hall.place" 1054 386 2 3 659 1059
def v_:Obj:=fO "place" "Hall.place" (g_ 94 3) Ip 664
def CD:Obj:=cO "check_room" "Hall.check_room" 1062 391 2 3 666 1067
def vx:Obj:=fO "check_room" "Hall.check_room" (g_ 94 4) Ip 671
def yB:Obj:=cO "door_at" "Hall.door_at" 1070 395 3 3 673 1076
def vb:Obj:=fO "door_at" "Hall.door_at" (g_ 94 5) Ip 678
def vc:Obj:=cP "offers" "Hall.offers" 1079 398 2 3 680 1082
def sq:Obj:=fO "offers" "Hall.offers" (g_ 94 6) Ip 683
def u0(P:Params):Obj:=wD (dF P 1029 Ip 372 <|dM P [("__init__",1039,644),("size",1046,651),("names",1053,658),("place",1061,665),("check_room",1069,672),("door_at",1078,679),("offers",1084,684),("__static_attributes__",1088,685),("__dict__",1090,688),("__weakref__",1092,689)]++dE P "__doc__" 1093 .none::[]) 4
def A1:Obj:=wK "Hall" [.type "object"] [.ref 687,.type "object"] 686 [] none 1022 1030 "object.__new__"
def A0:Obj:=⟨.type "getset_descriptor",none,.fields ⟨.str "__dict__" 1089::.ref 687::.builtin "function.__dict__"::.builtin "function.__dict__#set"::[]⟩,⟨[]⟩⟩
def tf:Obj:=cU "_law_cell" 1098 402 2 3 692 1103
def yz:Obj:=fV "_law_cell" 96 qj 697
def t0:Obj:=tN 1109 Wx
def w_:Obj:=cU "_law_stream" 1106 404 2 3 699 1115
def BE:Obj:=fV "_law_stream" 97 qj 704
def BI:Obj:=tN 1121 DH
def AG:Obj:=cU "_law_gcd" 1118 415 2 3 706 1125
def ww:Obj:=fV "_law_gcd" 98 qj 711
def AV:Obj:=tN 1131 Vr
def ya:Obj:=cU "_law_ratio" 1128 420 2 3 713 1134
def BS:Obj:=fV "_law_ratio" 99 qj 718
def vw:Obj:=cU "_law_is_ratio" 1137 423 1 3 720 1142
def AT:Obj:=fV "_law_is_ratio" 100 qj 725
def x5:Obj:=cV "_law_are_ratios" 1145 430 2 3 727 1148
def CL:Obj:=fV "_law_are_ratios" 101 qj 730
def Be:Obj:=cU "_law_same" 1151 434 2 3 732 1156
def u7:Obj:=fV "_law_same" 102 qj 737
def tS:Obj:=cV "_law_names" 1159 436 2 3 739 1162
def zp:Obj:=fV "_law_names" 103 qj 742
def yi:Obj:=tN 1168 Y0
def t3:Obj:=cU "_law_share" 1165 445 2 3 744 1172
def BB:Obj:=fV "_law_share" 104 qj 749
def A3:Obj:=tN 1178 C2
def As:Obj:=cU "_law_pay" 1175 449 4 3 751 1182
def vy:Obj:=fV "_law_pay" 105 qj 756
def At:Obj:=cV "_law_door" 1185 457 3 3 758 1188
def CQ:Obj:=fV "_law_door" 106 qj 761
def vz:Obj:=cV "_law_doors" 1191 474 4 3 763 1194
def vu:Obj:=fV "_law_doors" 107 qj 766
def sN:Obj:=cV "_law_built" 1197 484 3 3 768 1200
def yg:Obj:=fV "_law_built" 108 qj 771
def BU:Obj:=cV "_law_hall" 1203 494 3 3 773 1206
def tJ:Obj:=fV "_law_hall" 109 qj 776
def y7:Obj:=cU "_law_below" 1220 510 2 3 785 1225
def tI:Obj:=fV "_law_below" 111 qj 790
def CO:Obj:=cU "_law_size" 1228 512 1 3 792 1233
def AA:Obj:=fV "_law_size" 112 qj 797
def sC:Obj:=cU "_law_less" 1236 519 2 3 799 1241
def B2:Obj:=fV "_law_less" 113 qj 804
def Cs:Obj:=cV "_law_none_above" 1244 521 2 3 806 1247
def x4:Obj:=fV "_law_none_above" 114 qj 809
def AF:Obj:=cV "_law_alike" 1250 523 1 3 811 1253
def ub:Obj:=fV "_law_alike" 115 qj 814
def sB:Obj:=tN 1259 Vs
def AH:Obj:=cU "_law_nearer" 1256 525 3 3 816 1263
def zc:Obj:=fV "_law_nearer" 116 qj 821
def FS(P:Params):BT:=nd (boot_o_0 P) (nd (boot_o_1 P) (nd (Hd P) (nd (boot_o_7 P) (nd tE (nd rV (nd fE (nd Bi (n2 (fU "row_plus" 36) fE vu) (n1 fE (wF 638 635 "chancehall.halls" 981))) (nd tE (n1 (fU "with_rights" 47) (wF 574 571 "chancehall.doors" 794)) (n1 za (fU "_law_stream" 97)))) (nd rk (nd fE (n2 tE BN tE) (n1 tE CD)) (nd BA (n1 Ct (tN 986 ["share"])) (n1 tE tE)))) (nd (wT 31) (nd (rn P) (nd A' (n2 tF uj (cU "_law_chosen" 1209 501 2 3 778 1217)) (n1 tE tE)) (nd (tN 442 sW) (n1 fE tE) (n1 (cV "is_word" 788 282 1 3 460 791) BS))) (nd (tN 318 dU) (nd tE (n2 sM (tN 919 wJ) ub) (n1 (tN 752 ["many"]) A1)) (nd tE (n1 (fU "worths_of" 56) (fU "numbered_ways" 92)) (n1 AD tE))))) (nd wA (nd fE (nd (wT 31) (nd BG (n2 AN (tN 861 dU) (fU "_law_hall" 109)) (n1 (tN 699 ["hall"]) (tN 1043 ["self"]))) (nd fE (n1 tE tE) (n1 (tN 779 jf) AG))) (nd wA (nd (tN 393 cT) (n2 (fU "begin_row" 42) wA fE) (n1 fE vb)) (nd tE (n1 fE tE) (n1 fE zp)))) (nd (rs P) (nd (⟨.none,none,.fields ⟨i3 17 4 95 <|[]⟩,⟨[]⟩⟩) (nd tE (n2 y8 (⟨.none,none,.fields ⟨i3 324 4 543 <|[]⟩,⟨[]⟩⟩) tI) (n1 (fU "lowered" 65) (fT "place" "Hall.place" (g_ 94 3)))) (nd vE (n1 (fU "single_rows" 51) uB) (n1 A6 tE))) (nd (wS 118) (nd (fU "under" 21) (n1 fE (wS 566)) (n1 (cV "gains" 756 263 2 3 436 759) tE)) (nd B8 (n1 uC tt) (n1 tE fE)))))) (nd nj (nd (fU "_wall" 0) (nd (wT 31) (nd (rq P) (nd tE (n2 fE (cO "ways" "Door.ways" 851 317 1 3 510 855) sN) (n1 uS AZ)) (nd (fU "total" 24) (n1 fE tE) (n1 A8 fE))) (nd rg (nd (cU "minus" 382 58 2 3 158 387) (n2 tE tT (fU "_law_less" 113)) (n1 (fU "rounds_behind" 67) (tN 1073 zA))) (nd tE (n1 (fU "chosen_doors" 54) sT) (n1 (fU "check_chance" 81) tE)))) (nd fE (nd (wT 31) (nd tE (n2 y' (wT 526) (tN 1223 p8)) (n1 tE tE)) (nd AI (n1 w8 tE) (n1 (tN 799 wR) tE))) (nd vp (nd tE (n2 (fU "reduced" 44) vJ tE) (n1 va (wB 687))) (nd tE (n1 fE fE) (n1 tE (fU "_law_pay" 105)))))) (nd (wC "HallError" 198 5 25 201) (nd (rS P) (nd fE (nd (tN 359 Rj) (n2 (tN 522 zK) t7 fE) (n1 t8 tq)) (nd (cU "greatest" 430 75 1 3 198 436) (n1 (fU "odd_row" 49) (wB 585)) (n1 zv AV))) (nd (wC "NoPlan" 305 20 105 308) (nd v4 (n2 fE (wC "Mixed" 906 328 553 909) tE) (n1 wh vc)) (nd A5 (n1 BM tE) (n1 tE tE)))) (nd (wT 31) (nd fE (nd (fU "plus" 17) (n2 v6 fE tE) (n1 fE fE)) (nd (tN 459 XD) (n1 fE (wS 602)) (n1 tE CL))) (nd (tN 333 ["thing"]) (nd fE (n1 u8 (KB P)) (n1 (tN 765 Hz) tE)) (nd B5 (n1 (fU "mended" 59) (LN P)) (n1 (fT "__init__" "Door.__init__" (g_ 84 0)) tE))))))) (nd (boot_o_5 P) (nd (boot_o_9 P) (nd (tN 190 ["k"]) (nd (wS 31) (nd (wF 64 61 "chancehall.errors" 194) (nd fE (n2 yd tE fE) (n1 tE fE)) (nd (tN 425 RZ) (n1 BD fE) (n1 fE BE))) (nd (tN 298 ["room"]) (nd tE (n2 (cU "go_on" 543 140 3 3 284 549) (tN 899 ["leads"]) (tN 1239 p8)) (n1 (tN 731 qD) tE)) (nd fE (n1 tE (fU "check_share" 90)) (n1 (tN 814 ["chance"]) Be)))) (nd (GL P) (nd (wS 80) (nd fE (n2 fE (wS 526) tE) (n1 w4 v2)) (nd (fU "least" 26) (n1 tE (wC "Even" 961 340 591 964)) (n1 tE fE))) (nd (fT "__init__" "NoPlan.__init__" (g_ 8 0)) (nd (cU "over" 398 62 2 3 172 403) (n2 tE (fT "__init__" "Mixed.__init__" (g_ 86 0)) fE) (n1 (fU "check_behind" 70) (wG 1091 687))) (nd t9 (n1 u3 sD) (n1 wA A3))))) (nd tE (nd (wF 40 37 "chancehall.errors" 194) (nd (GH P) (nd tE (n2 tE (fT "chance_to" "Door.chance_to" (g_ 84 2)) tJ) (n1 (fU "best_of" 61) (fT "size" "Hall.size" (g_ 94 1)))) (nd tE (n1 (tN 606 HB) B9) (n1 (fU "round_plan" 74) tE))) (nd tE (nd (fU "times" 19) (n2 vt tE Cs) (n1 (tN 743 ["hall"]) fE)) (nd (fU "behind_door" 31) (n1 tE A9) (n1 CI fE)))) (nd (wS 56) (nd (wF 88 85 "chancehall.errors" 194) (nd (tN 377 cT) (n2 (fU "first_from" 40) (wF 536 533 "chancehall.doors" 794) fE) (n1 wt v_)) (nd tE (n1 CA (vi P)) (n1 fE (fU "_law_are_ratios" 101)))) (nd tE (nd yo (n1 tE (wT 566)) (n1 tE tf)) (nd fE (n1 tE tE) (n1 (tN 845 yE) At)))))) (nd ng (nd r3 (nd (GM P) (nd (wS 68) (nd (cU "divisor" 337 28 2 3 128 345) (n2 tE tE tE) (n1 tE tE)) (nd AQ (n1 zb By) (n1 tE tE))) (nd (wB 99) (nd tE (n2 B6 (wB 547) B2) (n1 sL (fT "door_at" "Hall.door_at" (g_ 94 5)))) (nd Cc (n1 Au fE) (n1 tm (fU "_law_names" 103))))) (nd (wF 52 49 "chancehall.errors" 194) (nd (GG P) (nd (cU "is_ratio" 365 48 1 3 144 371) (n2 tE (K3 P) (fU "_law_below" 111)) (n1 (tN 717 G8) (tN 1057 Fq))) (nd fE (n1 tE (fT "__init__" "Even.__init__" (g_ 88 0))) (n1 (fU "check_head" 79) vw))) (nd (tj P) (nd (tN 409 cT) (n2 BH (so P) AH) (n1 fE fE)) (nd (fU "lowest" 34) (n1 tE tE) (n1 (wC "Door" 832 309 499 835) vy))))) (nd tE (nd (wS 44) (nd (wF 76 73 "chancehall.errors" 194) (nd (fU "ratio" 15) (n2 (fU "number_at" 38) (sQ P) tE) (n1 fE fE)) (nd tE (n1 u2 wA) (n1 fE (fU "_law_ratio" 99)))) (nd tE (nd fE (n2 tE tE (fU "_law_alike" 115)) (n1 tE (tN 1085 ["numbers","offered","share"]))) (nd fE (n1 tE Bn) (n1 (fU "joined_ways" 83) t3)))) (nd (GI P) (nd tE (nd yf (n2 fE tE CO) (n1 BC tE)) (nd (fU "fits" 29) (n1 tE tE) (n1 t4 fE))) (nd (fU "is_whole" 10) (nd (cV "level" 416 67 1 3 186 419) (n1 tE (⟨.none,none,.fields ⟨i3 336 4 581 <|[]⟩,⟨[]⟩⟩)) (n1 (fU "to_come" 72) t0)) (nd tE (n1 w' (⟨.none,none,.fields ⟨i3 374 4 643 <|i3 380 4 650 <|i3 383 4 657 <|i3 386 4 664 <|i3 391 4 671 <|i3 395 4 678 <|i3 398 4 683 <|[]⟩,⟨[]⟩⟩)) (n1 vS (fU "_law_doors" 107))))))))) (nd (boot_o_2 P) (nd (boot_o_4 P) (nd (boot_o_8 P) (nd fE (nd (wG 209 31) (nd (wC "NoChance" 248 11 62 251) (nd tE (n2 zz (tN 854 ["self"]) tE) (n1 (tN 689 Dk) tE)) (nd fE (n1 wy tE) (n1 tE w_))) (nd rj (nd (tN 385 cT) (n2 (fU "go_on" 41) vn fE) (n1 fE vx)) (nd tE (n1 yy tE) (n1 fE (fU "_law_same" 102))))) (nd wA (nd rm (nd tE (n2 tE (wG 872 526) (fV "_law_chosen" 110 qj 783)) (n1 (fU "check_many" 64) (fT "names" "Hall.names" (g_ 94 2)))) (nd tE (n1 AW (⟨.none,none,.fields ⟨i3 342 4 598 <|[]⟩,⟨[]⟩⟩)) (n1 vv tE))) (nd tE (nd (fU "over" 20) (n2 AX tE tE) (n1 tE A0)) (nd (fU "raised_look" 32) (n1 xx ve) (n1 tE fE))))) (nd (GN P) (nd (wC "NoNumber" 216 7 38 219) (nd wA (nd sA (n2 wm tE BU) (n1 tE tE)) (nd (tN 433 sW) (n1 fE (uk P)) (n1 tE ww))) (nd (IF P) (nd tE (n2 v5 (LF P) (fU "_law_none_above" 114)) (n1 (tN 741 jf) tE)) (nd fE (n1 ss (fU "numbers_of" 91)) (n1 (fU "check_pairs" 82) tE)))) (nd rr (nd (wC "NoRoom" 280 15 86 283) (nd fE (n2 tE (wC "Sure" 879 322 534 882) tE) (n1 (cU "lowered" 714 242 2 3 403 719) AU)) (nd Co (n1 CH tE) (n1 tE fE))) (nd (wB 118) (nd (cU "under" 406 64 2 3 179 411) (n1 (tN 587 ["rows"]) (wB 566)) (n1 AL (fU "_law_cell" 96))) (nd tE (n1 AM CS) (n1 fE (fU "_law_door" 106))))))) (nd (⟨.none,none,.fields ⟨i3 1 0 20 <|i3 5 0 27 <|i3 7 0 40 <|i3 9 0 52 <|i3 11 0 64 <|i3 13 0 76 <|i3 15 0 88 <|i3 20 0 107 <|i3 26 0 126 <|i3 28 0 133 <|i3 39 0 142 <|i3 48 0 149 <|i3 56 0 156 <|i3 58 0 163 <|i3 60 0 170 <|i3 62 0 177 <|i3 64 0 184 <|i3 67 0 189 <|i3 72 0 196 <|i3 75 0 203 <|i3 81 0 210 <|i3 88 0 215 <|i3 90 0 222 <|i3 94 0 229 <|i3 101 0 234 <|i3 104 0 241 <|i3 108 0 246 <|i3 113 0 251 <|i3 115 0 256 <|i3 122 0 263 <|i3 131 0 270 <|i3 133 0 275 <|i3 135 0 282 <|i3 140 0 289 <|i3 143 0 296 <|i3 149 0 303 <|i3 154 0 308 <|i3 166 0 315 <|i3 170 0 320 <|i3 172 0 325 <|i3 179 0 332 <|i3 184 0 339 <|i3 189 0 344 <|i3 191 0 351 <|i3 199 0 356 <|i3 201 0 363 <|i3 208 0 368 <|i3 214 0 375 <|i3 219 0 380 <|i3 227 0 387 <|i3 235 0 394 <|i3 239 0 401 <|i3 242 0 408 <|i3 244 0 413 <|i3 251 0 420 <|i3 256 0 427 <|i3 260 0 434 <|i3 263 0 439 <|i3 265 0 446 <|i3 267 0 451 <|i3 277 0 458 <|i3 282 0 463 <|i3 287 0 470 <|i3 292 0 477 <|i3 295 0 484 <|i3 298 0 489 <|i3 304 0 494 <|i3 309 0 501 <|i3 322 0 536 <|i3 328 0 555 <|i3 334 0 574 <|i3 340 0 593 <|i3 345 0 610 <|i3 348 0 617 <|i3 356 0 624 <|i3 363 0 631 <|i3 372 0 638 <|i3 402 0 697 <|i3 404 0 704 <|i3 415 0 711 <|i3 420 0 718 <|i3 423 0 725 <|i3 430 0 730 <|i3 434 0 737 <|i3 436 0 742 <|i3 445 0 749 <|i3 449 0 756 <|i3 457 0 761 <|i3 474 0 766 <|i3 484 0 771 <|i3 494 0 776 <|i3 501 0 783 <|i3 510 0 790 <|i3 512 0 797 <|i3 519 0 804 <|i3 521 0 809 <|i3 523 0 814 <|i3 525 0 821 <|[]⟩,⟨[]⟩⟩) (nd (cU "_wall" 187 1 1 3 15 191) (nd wA (nd ro (nd (fU "divisor" 11) (n2 (tN 513 zZ) B' yg) (n1 v1 x_)) (nd (cU "total" 422 72 1 3 191 427) (n1 (fU "begins_of" 48) (fT "__init__" "Toss.__init__" (g_ 87 0))) (n1 AK BI))) (nd (wS 99) (nd ye (n2 fE (wS 547) sC) (n1 vT tE)) (nd (fU "check_plan" 30) (n1 vj tE) (n1 zq fE)))) (nd (wC "NoName" 232 9 50 235) (nd wA (nd (fU "is_ratio" 16) (n2 Bz wA tE) (n1 fE fE)) (nd tE (n1 sO fE) (n1 tE (fU "_law_is_ratio" 100)))) (nd (tN 323 ["room"]) (nd fE (n2 (cV "reduced" 576 154 2 3 305 579) (tN 926 ["leads"]) (fU "_law_nearer" 116)) (n1 tE tE)) (nd fE (n1 (tN 674 uN) BV) (n1 (⟨.none,none,.fields ⟨i3 311 4 508 <|i3 317 4 515 <|i3 320 4 522 <|[]⟩,⟨[]⟩⟩) As))))) (nd (wF 27 24 "chancehall.errors" 194) (nd rL (nd (wC "NoShare" 264 13 74 267) (nd tE (n2 tE (tN 866 ["leads","name","pay"]) (tN 1212 acW)) (n1 tE tE)) (nd zr (n1 (cU "odd_row" 603 179 3 3 327 610) (wT 566)) (n1 tE tE))) (nd (wF 107 104 "chancehall.errors" 194) (nd tE (n2 u1 (wF 555 552 "chancehall.doors" 794) fE) (n1 uu sq)) (nd tE (n1 BO fE) (n1 fE (fU "_law_share" 104))))) (nd wA (nd (tN 293 dU) (nd (cU "plus" 374 56 2 3 151 379) (n2 tE (tN 892 zV) (fU "_law_size" 112)) (n1 (fU "best_round" 66) (tN 1065 dU))) (nd tE (n1 sF (wB 602)) (n1 (fU "check_room_name" 80) tE))) (nd tE (nd (fU "level" 23) (n1 A2 tE) (n1 tE fE)) (nd Ap (n1 (cV "mended" 680 219 3 3 377 683) tE) (n1 A7 fE))))))) (nd (boot_o_6 P) (nd (boot_o_10 P) (nd tE (nd (wB 31) (nd tE (nd AC (n2 tE (fT "ways" "Door.ways" (g_ 84 1)) (fU "_law_built" 108)) (n1 (fU "mendings" 60) (fT "__init__" "Hall.__init__" (g_ 94 0)))) (nd tE (n1 tE ui) (n1 (fU "bounds_of" 73) tE))) (nd (rh P) (nd (fU "minus" 18) (n2 AO (vF P) tE) (n1 tE fE)) (nd (tN 467 xK) (n1 fE y9) (n1 tE u7)))) (nd tE (nd (wB 80) (nd (tN 368 Dt) (n2 (fU "fractions_of" 39) (wB 526) fE) (n1 ut vd)) (nd (cU "least" 439 81 1 3 205 445) (n1 (fU "answer_of" 50) (wF 593 590 "chancehall.doors" 794)) (n1 fE (tN 1140 yU)))) (nd t6 (nd ue (n2 fE tP sB) (n1 sK (wS 687))) (nd CM (n1 tE tE) (n1 (Kk P) tE))))) (nd fE (nd tE (nd tE (nd fE (n2 fE B1 tE) (n1 (cU "best_of" 696 235 1 3 389 700) (cO "size" "Hall.size" 1040 380 1 3 645 1044))) (nd (fU "greatest" 25) (n1 tE (wS 585)) (n1 Cb fE))) (nd (⟨.none,none,.fields ⟨i3 22 4 114 <|[]⟩,⟨[]⟩⟩) (nd (cU "times" 390 60 2 3 165 395) (n2 tE (⟨.none,none,.fields ⟨i3 330 4 562 <|[]⟩,⟨[]⟩⟩) x4) (n1 (fU "best_rounds" 68) (fT "offers" "Hall.offers" (g_ 94 6)))) (nd uv (n1 (fU "left_rows" 55) yn) (n1 ua yi)))) (nd (wB 56) (nd tE (nd tE (n2 AE tE (tN 1231 XF)) (n1 tE tE)) (nd fE (n1 tE sx) (n1 (tN 807 ["room"]) x5))) (nd fE (nd tE (n1 (fU "width_of" 46) wA) (n1 fE yz)) (nd (fU "row_times" 35) (n1 fE wA) (n1 tE CQ)))))) (nd nf (nd r2 (nd tE (nd (wB 68) (nd AY (n2 (fU "take_step" 37) fE fE) (n1 fE fE)) (nd tE (n1 Cf s_) (n1 fE (fU "_law_gcd" 98)))) (nd (wT 31) (nd fE (n2 tE (wT 526) tE) (n1 tE yB)) (nd A4 (n1 tE (tN 993 vO)) (n1 tE tS)))) (nd tE (nd tE (nd vl (n2 fE tE y7) (n1 tE tE)) (nd (fU "first_plan" 28) (n1 fE AB) (n1 v3 AT))) (nd AR (nd tE (n2 tE B7 zc) (n1 (fU "gains" 71) (tN 1101 YQ))) (nd (cV "lowest" 492 108 2 3 243 495) (n1 (fU "better_door" 58) (fU "offers_of" 93)) (n1 (wF 501 498 "chancehall.doors" 794) tE))))) (nd (rX P) (nd (wB 44) (nd tE (nd (cU "ratio" 356 39 2 3 137 362) (n2 B4 uA (fU "_law_chosen" 110)) (n1 (tN 710 ["many"]) (tN 1050 ["self"]))) (nd fE (n1 tE (IH P)) (n1 (fU "is_word" 77) ya))) (nd fE (nd (tN 401 cT) (n2 (fU "clear_column" 43) fE AF) (n1 fE (u0 P))) (nd sP (n1 fE tE) (n1 ti BB)))) (nd tE (nd (fT "__init__" "NoRoom.__init__" (g_ 7 0)) (nd tE (n2 (tN 546 T7) (fT "__init__" "Sure.__init__" (g_ 85 0)) AA) (n1 BY (fT "check_room" "Hall.check_room" (g_ 94 4)))) (nd (cU "fits" 456 90 2 3 217 461) (n1 (fU "only_answer" 52) fE) (n1 CC (tN 1154 p8)))) (nd (cU "is_whole" 330 26 1 3 121 334) (nd tu (n1 fE (wC "Toss" 933 334 572 936)) (n1 (cU "to_come" 762 265 2 3 441 767) tE)) (nd fE (n1 tE (wC "Hall" 1024 372 636 1027)) (n1 tE vz))))))))
def S1(w:World)(os:OsState):SharedT:=⟨FS w.params,823,{},⟨[]⟩,{},1266,os⟩
def e1:Pos:=⟨525,0,529,142⟩
def KH:Params->Frag:=λP=>((nat_lit 2,boot_o_2 P)::(nat_lit 3,zM P [("_law_within",1271,827),("law",1277,832)] 113)::(nat_lit 15,tE)::(nat_lit 17,tN 190 ["k"])::(nat_lit 18,tE)::(nat_lit 20,cU "_wall" 187 1 1 3 15 191)::(nat_lit 21,r3)::(nat_lit 22,r2)::(nat_lit 29,tE)::(nat_lit 30,rX P)::(nat_lit 31,rV)::(nat_lit 32,(wG 209 31))::(nat_lit 35,(wT 31))::(nat_lit 42,tE)::(nat_lit 43,rS P)::(nat_lit 44,rL)::(nat_lit 47,(wT 31))::(nat_lit 54,tE)::(nat_lit 55,rs P)::(nat_lit 56,rr)::(nat_lit 59,(wT 31))::(nat_lit 66,tE)::(nat_lit 67,rq P)::(nat_lit 68,ro)::(nat_lit 71,(wT 31))::(nat_lit 78,tE)::(nat_lit 79,rn P)::(nat_lit 80,rm)::(nat_lit 83,(wT 31))::(nat_lit 90,tE)::(nat_lit 92,tN 293 dU)::(nat_lit 93,tE)::(nat_lit 95,rk)::(nat_lit 96,rj)::(nat_lit 97,tN 298 ["room"])::(nat_lit 98,rh P)::(nat_lit 99,rg)::(nat_lit 102,(wT 31))::(nat_lit 109,tE)::(nat_lit 111,tN 318 dU)::(nat_lit 112,tE)::(nat_lit 114,t6)::(nat_lit 115,vp)::(nat_lit 116,tN 323 ["room"])::(nat_lit 117,tj P)::(nat_lit 118,AR)::(nat_lit 121,tE)::(nat_lit 123,tN 333 ["thing"])::(nat_lit 124,tE)::(nat_lit 126,cU "is_whole" 330 26 1 3 121 334)::(nat_lit 127,Bi)::(nat_lit 128,tE)::(nat_lit 130,AC)::(nat_lit 131,tE)::(nat_lit 133,cU "divisor" 337 28 2 3 128 345)::(nat_lit 134,AY)::(nat_lit 135,BG)::(nat_lit 136,sA)::(nat_lit 137,tE)::(nat_lit 139,tN 359 Rj)::(nat_lit 140,tE)::(nat_lit 142,cU "ratio" 356 39 2 3 137 362)::(nat_lit 143,A')::(nat_lit 144,tE)::(nat_lit 146,tN 368 Dt)::(nat_lit 147,tE)::(nat_lit 149,cU "is_ratio" 365 48 1 3 144 371)::(nat_lit 150,vl)::(nat_lit 151,tE)::(nat_lit 153,tN 377 cT)::(nat_lit 154,tE)::(nat_lit 156,cU "plus" 374 56 2 3 151 379)::(nat_lit 157,yf)::(nat_lit 158,tE)::(nat_lit 160,tN 385 cT)::(nat_lit 161,tE)::(nat_lit 163,cU "minus" 382 58 2 3 158 387)::(nat_lit 164,ye)::(nat_lit 165,tE)::(nat_lit 167,tN 393 cT)::(nat_lit 168,tE)::(nat_lit 170,cU "times" 390 60 2 3 165 395)::(nat_lit 171,v4)::(nat_lit 172,tE)::(nat_lit 174,tN 401 cT)::(nat_lit 175,tE)::(nat_lit 177,cU "over" 398 62 2 3 172 403)::(nat_lit 178,ue)::(nat_lit 179,tE)::(nat_lit 181,tN 409 cT)::(nat_lit 182,tE)::(nat_lit 184,cU "under" 406 64 2 3 179 411)::(nat_lit 185,yo)::(nat_lit 186,tE)::(nat_lit 189,cV "level" 416 67 1 3 186 419)::(nat_lit 190,tu)::(nat_lit 191,tE)::(nat_lit 193,tN 425 RZ)::(nat_lit 194,tE)::(nat_lit 196,cU "total" 422 72 1 3 191 427)::(nat_lit 197,AQ)::(nat_lit 198,tE)::(nat_lit 200,tN 433 sW)::(nat_lit 201,tE)::(nat_lit 203,cU "greatest" 430 75 1 3 198 436)::(nat_lit 204,zr)::(nat_lit 205,tE)::(nat_lit 207,tN 442 sW)::(nat_lit 208,tE)::(nat_lit 210,cU "least" 439 81 1 3 205 445)::(nat_lit 211,AI)::(nat_lit 212,tE)::(nat_lit 215,vE)::(nat_lit 216,Co)::(nat_lit 217,tE)::(nat_lit 219,tN 459 XD)::(nat_lit 220,tE)::(nat_lit 222,cU "fits" 456 90 2 3 217 461)::(nat_lit 223,BA)::(nat_lit 224,tE)::(nat_lit 226,tN 467 xK)::(nat_lit 227,tE)::(nat_lit 229,Cc)::(nat_lit 230,A4)::(nat_lit 231,tE)::(nat_lit 234,uv)::(nat_lit 235,A5)::(nat_lit 236,tE)::(nat_lit 238,sP)::(nat_lit 239,tE)::(nat_lit 241,t9)::(nat_lit 242,CM)::(nat_lit 243,tE)::(nat_lit 246,cV "lowest" 492 108 2 3 243 495)::(nat_lit 247,B8)::(nat_lit 248,tE)::(nat_lit 251,B5)::(nat_lit 252,Ap)::(nat_lit 253,tE)::(nat_lit 256,zz)::(nat_lit 257,yd)::(nat_lit 258,tE)::(nat_lit 260,tN 513 zZ)::(nat_lit 261,tE)::(nat_lit 263,AN)::(nat_lit 264,wm)::(nat_lit 265,tE)::(nat_lit 267,tN 522 zK)::(nat_lit 268,tE)::(nat_lit 270,B4)::(nat_lit 271,tF)::(nat_lit 272,tE)::(nat_lit 275,y')::(nat_lit 276,Bz)::(nat_lit 277,tE)::(nat_lit 279,y8)::(nat_lit 280,tE)::(nat_lit 282,AE)::(nat_lit 283,v6)::(nat_lit 284,tE)::(nat_lit 286,tN 546 T7)::(nat_lit 287,tE)::(nat_lit 289,cU "go_on" 543 140 3 3 284 549)::(nat_lit 290,AO)::(nat_lit 291,tE)::(nat_lit 293,B6)::(nat_lit 294,tE)::(nat_lit 296,v5)::(nat_lit 297,vt)::(nat_lit 298,tE)::(nat_lit 300,u1)::(nat_lit 301,tE)::(nat_lit 303,sM)::(nat_lit 304,AX)::(nat_lit 305,tE)::(nat_lit 308,cV "reduced" 576 154 2 3 305 579)::(nat_lit 309,BH)::(nat_lit 310,tE)::(nat_lit 312,tN 587 ["rows"])::(nat_lit 313,tE)::(nat_lit 315,u8)::(nat_lit 316,A2)::(nat_lit 317,tE)::(nat_lit 320,wy)::(nat_lit 321,BD)::(nat_lit 322,tE)::(nat_lit 325,zb)::(nat_lit 326,Cf)::(nat_lit 327,tE)::(nat_lit 329,tN 606 HB)::(nat_lit 330,tE)::(nat_lit 332,cU "odd_row" 603 179 3 3 327 610)::(nat_lit 333,u2)::(nat_lit 334,tE)::(nat_lit 336,AW)::(nat_lit 337,tE)::(nat_lit 339,w8)::(nat_lit 340,sO)::(nat_lit 341,tE)::(nat_lit 344,CH)::(nat_lit 345,CA)::(nat_lit 346,tE)::(nat_lit 348,sF)::(nat_lit 349,tE)::(nat_lit 351,Ct)::(nat_lit 352,yy)::(nat_lit 353,tE)::(nat_lit 356,vj)::(nat_lit 357,Au)::(nat_lit 358,tE)::(nat_lit 360,ss)::(nat_lit 361,tE)::(nat_lit 363,BM)::(nat_lit 364,BO)::(nat_lit 365,tE)::(nat_lit 368,xx)::(nat_lit 369,u3)::(nat_lit 370,tE)::(nat_lit 372,tN 674 uN)::(nat_lit 373,tE)::(nat_lit 375,uC)::(nat_lit 376,AM)::(nat_lit 377,tE)::(nat_lit 380,cV "mended" 680 219 3 3 377 683)::(nat_lit 381,w')::(nat_lit 382,tE)::(nat_lit 384,tN 689 Dk)::(nat_lit 385,tE)::(nat_lit 387,uS)::(nat_lit 388,v1)::(nat_lit 389,tE)::(nat_lit 391,tN 699 ["hall"])::(nat_lit 392,tE)::(nat_lit 394,cU "best_of" 696 235 1 3 389 700)::(nat_lit 395,t8)::(nat_lit 396,tE)::(nat_lit 398,tN 710 ["many"])::(nat_lit 399,tE)::(nat_lit 401,w4)::(nat_lit 402,ut)::(nat_lit 403,tE)::(nat_lit 405,tN 717 G8)::(nat_lit 406,tE)::(nat_lit 408,cU "lowered" 714 242 2 3 403 719)::(nat_lit 409,wt)::(nat_lit 410,tE)::(nat_lit 413,BC)::(nat_lit 414,BY)::(nat_lit 415,tE)::(nat_lit 417,tN 731 qD)::(nat_lit 418,tE)::(nat_lit 420,vT)::(nat_lit 421,sL)::(nat_lit 422,tE)::(nat_lit 424,tN 741 jf)::(nat_lit 425,tN 743 ["hall"])::(nat_lit 427,wh)::(nat_lit 428,uu)::(nat_lit 429,tE)::(nat_lit 431,tN 752 ["many"])::(nat_lit 432,tE)::(nat_lit 434,sK)::(nat_lit 435,va)::(nat_lit 436,tE)::(nat_lit 439,cV "gains" 756 263 2 3 436 759)::(nat_lit 440,AL)::(nat_lit 441,tE)::(nat_lit 443,tN 765 Hz)::(nat_lit 444,tE)::(nat_lit 446,cU "to_come" 762 265 2 3 441 767)::(nat_lit 447,za)::(nat_lit 448,tE)::(nat_lit 451,A8)::(nat_lit 452,AK)::(nat_lit 453,tE)::(nat_lit 455,tN 779 jf)::(nat_lit 456,tE)::(nat_lit 458,Cb)::(nat_lit 459,zv)::(nat_lit 460,tE)::(nat_lit 463,cV "is_word" 788 282 1 3 460 791)::(nat_lit 464,vv)::(nat_lit 465,tE)::(nat_lit 467,tN 799 wR)::(nat_lit 468,tE)::(nat_lit 470,v3)::(nat_lit 471,A6)::(nat_lit 472,tE)::(nat_lit 474,tN 807 ["room"])::(nat_lit 475,tE)::(nat_lit 477,t4)::(nat_lit 478,CC)::(nat_lit 479,tE)::(nat_lit 481,tN 814 ["chance"])::(nat_lit 482,tE)::(nat_lit 484,zq)::(nat_lit 485,tm)::(nat_lit 486,tE)::(nat_lit 489,CI)::(nat_lit 490,ua)::(nat_lit 491,tE)::(nat_lit 494,ti)::(nat_lit 495,AD)::(nat_lit 503,tE)::(nat_lit 505,tN 845 yE)::(nat_lit 506,tE)::(nat_lit 508,A7)::(nat_lit 509,vS)::(nat_lit 510,tE)::(nat_lit 512,tN 854 ["self"])::(nat_lit 513,tE)::(nat_lit 515,cO "ways" "Door.ways" 851 317 1 3 510 855)::(nat_lit 516,B')::(nat_lit 517,tE)::(nat_lit 519,tN 861 dU)::(nat_lit 520,tE)::(nat_lit 522,B1)::(nat_lit 523,t7)::(nat_lit 524,tN 866 ["leads","name","pay"])::(nat_lit 525,sQ P)::(nat_lit 526,uA)::(nat_lit 527,uj)::(nat_lit 528,(wG 872 526))::(nat_lit 531,(wT 526))::(nat_lit 538,tE)::(nat_lit 540,tN 892 zV)::(nat_lit 541,tE)::(nat_lit 543,BN)::(nat_lit 544,vn)::(nat_lit 545,tN 899 ["leads"])::(nat_lit 546,vF P)::(nat_lit 547,tT)::(nat_lit 550,(wT 526))::(nat_lit 557,tE)::(nat_lit 559,tN 919 wJ)::(nat_lit 560,tE)::(nat_lit 562,tP)::(nat_lit 563,vJ)::(nat_lit 564,tN 926 ["leads"])::(nat_lit 565,so P)::(nat_lit 566,B7)::(nat_lit 569,(wT 566))::(nat_lit 576,tE)::(nat_lit 578,ui)::(nat_lit 579,tE)::(nat_lit 581,By)::(nat_lit 582,s_)::(nat_lit 583,tE)::(nat_lit 584,uk P)::(nat_lit 585,B9)::(nat_lit 588,(wT 566))::(nat_lit 595,tE)::(nat_lit 598,AB)::(nat_lit 599,uB)::(nat_lit 600,tE)::(nat_lit 601,vi P)::(nat_lit 602,sx)::(nat_lit 605,tE)::(nat_lit 607,tN 986 ["share"])::(nat_lit 608,tE)::(nat_lit 610,y9)::(nat_lit 611,sT)::(nat_lit 612,tE)::(nat_lit 614,tN 993 vO)::(nat_lit 615,tE)::(nat_lit 617,A9)::(nat_lit 618,yn)::(nat_lit 619,tE)::(nat_lit 621,Bn)::(nat_lit 622,tE)::(nat_lit 624,ve)::(nat_lit 625,sD)::(nat_lit 626,tE)::(nat_lit 628,BV)::(nat_lit 629,tE)::(nat_lit 631,tt)::(nat_lit 632,CS)::(nat_lit 640,tE)::(nat_lit 643,AZ)::(nat_lit 644,x_)::(nat_lit 645,tE)::(nat_lit 647,tN 1043 ["self"])::(nat_lit 648,tE)::(nat_lit 650,cO "size" "Hall.size" 1040 380 1 3 645 1044)::(nat_lit 651,tq)::(nat_lit 652,tE)::(nat_lit 654,tN 1050 ["self"])::(nat_lit 655,tE)::(nat_lit 657,v2)::(nat_lit 658,vd)::(nat_lit 659,tE)::(nat_lit 661,tN 1057 Fq)::(nat_lit 662,tE)::(nat_lit 664,AU)::(nat_lit 665,v_)::(nat_lit 666,tE)::(nat_lit 668,tN 1065 dU)::(nat_lit 669,tE)::(nat_lit 671,CD)::(nat_lit 672,vx)::(nat_lit 673,tE)::(nat_lit 675,tN 1073 zA)::(nat_lit 676,tE)::(nat_lit 678,yB)::(nat_lit 679,vb)::(nat_lit 680,tE)::(nat_lit 683,vc)::(nat_lit 684,sq)::(nat_lit 685,tN 1085 ["numbers","offered","share"])::(nat_lit 686,u0 P)::(nat_lit 687,A1)::(nat_lit 688,A0)::(nat_lit 689,(wG 1091 687))::(nat_lit 692,tE)::(nat_lit 694,tN 1101 YQ)::(nat_lit 695,tE)::(nat_lit 697,tf)::(nat_lit 698,yz)::(nat_lit 699,tE)::(nat_lit 701,t0)::(nat_lit 702,tE)::(nat_lit 704,w_)::(nat_lit 705,BE)::(nat_lit 706,tE)::(nat_lit 708,BI)::(nat_lit 709,tE)::(nat_lit 711,AG)::(nat_lit 712,ww)::(nat_lit 713,tE)::(nat_lit 715,AV)::(nat_lit 716,tE)::(nat_lit 718,ya)::(nat_lit 719,BS)::(nat_lit 720,tE)::(nat_lit 722,tN 1140 yU)::(nat_lit 723,tE)::(nat_lit 725,vw)::(nat_lit 726,AT)::(nat_lit 727,tE)::(nat_lit 730,x5)::(nat_lit 731,CL)::(nat_lit 732,tE)::(nat_lit 734,tN 1154 p8)::(nat_lit 735,tE)::(nat_lit 737,Be)::(nat_lit 738,u7)::(nat_lit 739,tE)::(nat_lit 742,tS)::(nat_lit 743,zp)::(nat_lit 744,tE)::(nat_lit 746,yi)::(nat_lit 747,tE)::(nat_lit 749,t3)::(nat_lit 750,BB)::(nat_lit 751,tE)::(nat_lit 753,A3)::(nat_lit 754,tE)::(nat_lit 756,As)::(nat_lit 757,vy)::(nat_lit 758,tE)::(nat_lit 761,At)::(nat_lit 762,CQ)::(nat_lit 763,tE)::(nat_lit 766,vz)::(nat_lit 767,vu)::(nat_lit 768,tE)::(nat_lit 771,sN)::(nat_lit 772,yg)::(nat_lit 773,tE)::(nat_lit 776,BU)::(nat_lit 777,tJ)::(nat_lit 785,tE)::(nat_lit 787,tN 1223 p8)::(nat_lit 788,tE)::(nat_lit 790,y7)::(nat_lit 791,tI)::(nat_lit 792,tE)::(nat_lit 794,tN 1231 XF)::(nat_lit 795,tE)::(nat_lit 797,CO)::(nat_lit 798,AA)::(nat_lit 799,tE)::(nat_lit 801,tN 1239 p8)::(nat_lit 802,tE)::(nat_lit 804,sC)::(nat_lit 805,B2)::(nat_lit 806,tE)::(nat_lit 809,Cs)::(nat_lit 810,x4)::(nat_lit 811,tE)::(nat_lit 814,AF)::(nat_lit 815,ub)::(nat_lit 816,tE)::(nat_lit 818,sB)::(nat_lit 819,tE)::(nat_lit 821,AH)::(nat_lit 822,zc)::(nat_lit 823,tE)::(nat_lit 826,cV "_law_within" 1266 530 5 3 823 1269)::(nat_lit 827,fV "_law_within" 117 qj 826)::(nat_lit 828,tE)::(nat_lit 831,cV "law" 1272 545 1 3 828 1275)::(nat_lit 832,fV "law" 118 qj 831)::([]:List (Nat×Obj)))
abbrev asH:List Nat:=(KH {strHash:=λ_=>0,shareClass:=λ_=>0,mergeTok:=id,idOf:=λ_=>0,idOfShared:=λ_ _=>0,followText:=λ_=>true,idOfImm:=λ_=>0}).map (·.1)
def KHT(P:Params):Frag:=KH P++[(nat_lit 423,fE)]
abbrev lg:List Nat:=asH++[423]
noncomputable def qv:Program:=view p [0,2,3,4,5,6,7,8,10,11,13,14,15,16,17,18,19,20,21,23,24,25,26,28,29,30,31,32,34,35,36,37,38,39,40,41,42,43,44,46,47,48,49,50,51,52,54,55,56,58,59,60,61,63,64,65,66,67,68,70,71,72,73,74,76,77,79,80,81,82,83,84,85,86,87,88,90,91,92,93,94,96,97,98,99,100,101,102,103,104,105,106,107,108,109,110,111,112,113,114,115,116,117,118]
abbrev R:RowW:=PySem.Challenge.rw_chancehall_k56_whole_bounds.row.toRowW
def Xt(s:Shared):Bool:=xlAt qv [] s&&recOk R.records s
def e:Pos:=⟨545,0,562,15⟩
set_option maxHeartbeats 0
def GT:looksOpen PySem.Challenge.rw_chancehall_k56_whole_bounds.row.prog=true:=by kernel_rfl
def wsd:PySem.Challenge.rw_chancehall_k56_whole_bounds.wellSaid=true:=by
 unfold OpenLaw.wellSaid OpenRow.wellSaid OpenRow.partSaid;rw[GT]
 kernel_rfl
def asK:∀P,lg=(KHT P).map (·.1):=λ_=>by kernel_rfl
def pre(w:World):(λos=>topGo treeTable p w 11 eH 12 (S0 w os) (topStub p))=λos=>some (Sa w os,⟨denote treeTable (cE p),cE p,z,B⟩):=by
 rw[Fast.te15667345088766844465,Fast.te14364793385576792824,Fast.te11892475500146522536];kernel_rfl
def block(w:World):(λos=>segRun treeTable p w 11 eH 1 1 (Sa w os) (blockOf (behindTheImports p) (env p) (cE p) z B))=λos=>some (.next,(Sb w os).abs,cE p,z):=by
 rw[Fast.te14374325043358763698,Fast.te14364793385576792824];kernel_rfl
def OC(w:World):(λos=>segRunT treeTable p w 11 eH 1 30000 (Sb w os) (piecesOf ((behindTheImports p).take 117) (env p) (cE p) z B))=λos=>some (.next,S1 w os,cE p,e1):=by
 rw[Fast.te10110043849684766642,Fast.te14364793385576792824];kernel_rfl
def comb{R S A B C X Y Z:Type _}{o:Option R}{f:R->A}{g:R->B}{k:R->C}{h:R->Option S}{t:S->X}{q:S->Y}{p:S->Z}{a:A}{b:B}{c:C}{x:X}{y:Y}{z:Z}(e:(o.map λr=>(f r,g r,k r,(h r).map t))=some (a,b,c,some x))(n:(o.map λr=>(f r,g r,k r,(h r).map q))=some (a,b,c,some y))(m:(o.map λr=>(f r,g r,k r,(h r).map p))=some (a,b,c,some z)):(o.map λr=>(f r,g r,k r,(h r).map λs=>(t s,q s,p s)))=some (a,b,c,some (x,y,z)):=by
 cases o with
 |none=>cases e
 |some r =>
  simp only[Option.map_some,Option.some.injEq,Prod.mk.injEq]at e n m ⊢;obtain⟨w,v,u,d⟩:=e;obtain⟨_,_,_,j⟩:=n;obtain⟨_,_,_,i⟩:=m;cases l:h r with
  |none=>rw[l]at d;cases d
  |some s =>
   rw[l]at d j i;refine⟨w,v,u,?_⟩;simp only[Option.map_some,Option.some.injEq]at d j i ⊢;rw[d,j,i]
def He{R S A B C X Y:Type _}{o:Option R}{f:R->A}{g:R->B}{k:R->C}{h:R->Option S}{n:S->X}{m:S->Y}{a:A}{b:B}{c:C}{x:X}{y:Y}(e:(o.map λr=>(f r,g r,k r,(h r).map n))=some (a,b,c,some x))(l:(o.map λr=>(f r,g r,k r,(h r).map m))=some (a,b,c,some y)):(o.map λr=>(f r,g r,k r,(h r).map λs=>(n s,m s)))=some (a,b,c,some (x,y)):=by
 cases o with
 |none=>cases e
 |some r =>
  simp only[Option.map_some,Option.some.injEq,Prod.mk.injEq]at e l ⊢;obtain⟨t,q,p,d⟩:=e;obtain⟨_,_,_,i⟩:=l;cases j:h r with
  |none=>rw[j]at d;cases d
  |some s =>
   rw[j]at d i;refine⟨t,q,p,?_⟩;simp only[Option.map_some,Option.some.injEq]at d i ⊢;rw[d,i]
noncomputable def sR{a:Type}(w:World)(os:OsState)(f:Shared->a):=(segRunT treeTable p w 11 eH 1 50000 (S1 w os) (piecesOf ((behindTheImports p).drop 117) (env p) (cE p) e1 B)).map λr=>(r.1,r.2.2.1,r.2.2.2,(topRun treeTable p w 11 eH 2 r.2.1.abs ⟨doneF .next,cE p,e,B⟩).map f)
def F7(w:World):(λos=>sR w os λs=>(openSeen qv [] (importedModules p.main.body) Xt true s).1)=λ_=>some (.next,cE p,e,some ((openGood qv []).1)):=by
 unfold sR;rw[Fast.te10110043849684766642,Fast.te14364793385576792824,Fast.te14082659384304107361,Fast.te4187177175401517315,Fast.te5923862056798008813];kernel_rfl
def F6(w:World):(λos=>sR w os λs=>(openSeen qv [] (importedModules p.main.body) Xt true s).2)=λ_=>some (.next,cE p,e,some ((openGood qv []).2)):=by
 unfold sR;rw[Fast.te10110043849684766642,Fast.te14364793385576792824,Fast.te14082659384304107361];kernel_rfl
def HQ(w:World):(λos=>sR w os λs=>openSeen qv [] (importedModules p.main.body) Xt true s)=λ_=>some (.next,cE p,e,some (openGood qv [])):=funext λos=>He (congrFun (F7 w) os) (congrFun (F6 w) os)
def Hn(w:World):(λos=>sR w os λs=>staticsOk (importedModules p.main.body) (boot_heap w.params) s.heap&&namesBound p s.heap&&gensDone s&&laidKept (boot_heap w.params) s.heap)=λ_=>some (.next,cE p,e,some (true)):=by
 unfold sR;rw[Fast.te10110043849684766642,Fast.te14364793385576792824,Fast.te14082659384304107361];kernel_rfl
def KA(w:World):(λos=>sR w os λs=>lg.map s.heap.get?)=λ_=>some (.next,cE p,e,some ((KHT w.params).map λp=>some p.2)):=by
 unfold sR;rw[Fast.te10110043849684766642,Fast.te14364793385576792824,Fast.te14082659384304107361];kernel_rfl
def big(w:World):(λos=>sR w os λs=>(staticsOk (importedModules p.main.body) (boot_heap w.params) s.heap&&namesBound p s.heap&&gensDone s&&laidKept (boot_heap w.params) s.heap,openSeen qv [] (importedModules p.main.body) Xt true s,lg.map s.heap.get?))=λ_=>some (.next,cE p,e,some (true,openGood qv [],(KHT w.params).map λp=>some p.2)):=funext λos=>comb (congrFun (Hn w) os) (congrFun (HQ w) os) (congrFun (KA w) os)
def left:LeftO p qv [] Xt (λs=>lg.map s.heap.get?) (λw=>(KHT w.params).map λp=>some p.2) 200000 :=
 abb (boot_open rfl rfl λ_=>rfl) pre block (λw os=>qz.cutAt (congrFun (OC w) os) (qz.last (congrFun (big w) os))) rfl
def hX(s:Shared)(h:Xt s=true):XL qv [] (s.heap.nsMap mainGlobals) s.heap:=xl_of s (Bool.and_eq_true_iff.mp h).1
def hR(s:Shared)(h:Xt s=true):RecFacts R.records s.heap:=recFacts_of (Bool.and_eq_true_iff.mp h).2
end
end H56
noncomputable section
abbrev zS:=List (Option Nat)
abbrev zI:=List (Nat×Rat)
abbrev xz:=List Rat
abbrev xm:=List Int
abbrev xo:=Option Int
abbrev xC:=Option Nat
abbrev xE:=List Nat
abbrev wx:=List Bool
abbrev wv:=List xz
def wf{p:Prop}(h:p:=by decide):p:=h
def wp{p:Prop}(h:p:=by lia):p:=h
def wr{p:Prop}(h:p:=by simp):p:=h
abbrev PySem.Shared.zs(s:PySem.Shared):=s.heap.objs.size
open List (range length_cons map_cons append_nil replicate map_nil replicate_succ flatten_cons foldl_cons length_singleton drop_zero lookup_cons all_cons all_map any_cons any_map getElem_zip zip_cons_cons cons_append length_zipIdx zipWith_cons_cons zipWith map_singleton range_succ map_zipWith map_set getElem_set map_take take_nil range' all_eq_true map_const' sum_cons)
open Bool (and_eq_true)
open Nat (succ_le_succ min_le_left add_mul pow_zero pow_succ pow_pos mod_lt sub_zero gcd_comm dvd_mul_left)
open Option (getD_none getD_some)
open Int (fdiv natAbs_neg)
open Rat (intCast_zero divInt div_def lt_iff le_iff sub_eq_add_neg)
namespace L2
open PySem PySem.Spec PyProof.Rows
abbrev wq:=List Keyword
abbrev xI:=Array Value
abbrev xN:=List (Str×NameKind)
abbrev xS:=List Stmt
abbrev xa:=List PyData
abbrev xt:=List Env
abbrev xh:=List (Str×Value)
abbrev xf:=List (Str×Rat)
abbrev xb:=List (Str×Addr)
abbrev xw:=List Expr
abbrev bX:=Sum Int Str
abbrev xi:=List bX
def Ed:bX->Value->Bool
 |.inl k,v=>Value.isInt k v
 |.inr x,v=>Value.isStrOf x v
def JI(w:World):bX->Int
 |.inl k=>hashInt k
 |.inr x=>hashStr w x
def gP:∀{k:bX}{v:Value},Ed k v->(∃i t,k=Sum.inl i/\v=Value.int i t)\/(∃x t,k=Sum.inr x/\v=Value.str x t)
 |.inl i,v,h=>by
  obtain⟨t,e⟩:=Value.isInt_shape (k:=i) (v:=v) h;exact .inl ⟨i,t,rfl,e⟩
 |.inr x,v,h=>by
  obtain⟨t,e⟩:=Value.isStrOf_shape (x:=x) (v:=v) h;exact .inr ⟨x,t,rfl,e⟩
def aa2(i:Int)(t:Tok):Ed (.inl i) (.int i t):=by simp[Ed,Value.isInt]
def aaY(x:Str)(t:Tok):Ed (.inr x) (.str x t):=by simp[Ed,Value.isStrOf]
def PZ(a b:Int):decide ((Sum.inl a:bX)=Sum.inl b)=(a==b):=by
 by_cases e:a=b
 .subst e;simp
 .have h:¬(Sum.inl a:bX)=Sum.inl b:=λq=>e (Sum.inl.inj q);rw[Zp h];exact(beq_eq_false_iff_ne.mpr e).symm
def Os(a b:Str):decide ((Sum.inr a:bX)=Sum.inr b)=decide (a=b):=by
 by_cases e:a=b
 .subst e;simp
 .have h:¬(Sum.inr a:bX)=Sum.inr b:=λq=>e (Sum.inr.inj q);rw[Zp h,Zp e]
def O0(a:Int)(b:Str):decide ((Sum.inl a:bX)=Sum.inr b)=false:=Zp (λq=>nomatch q)
def NM(a:Str)(b:Int):decide ((Sum.inr a:bX)=Sum.inl b)=false:=Zp (λq=>nomatch q)
def kJ(c:Program)(w:World):PySem.KeyKind c w bX where
 is:=Ed
 hash:=JI w
 inj:=λv a b m g=>by
  rcases gP m with⟨i,t,rfl,rfl⟩|⟨x,t,rfl,rfl⟩
  .rcases gP g with⟨j,u,rfl,e⟩|⟨y,u,rfl,e⟩
   .injection e with d _;rw[d]
   .exact nomatch e
  .rcases gP g with⟨j,u,rfl,e⟩|⟨y,u,rfl,e⟩
   .exact nomatch e
   .injection e with d _;rw[d]
 byValue:=λk v h=>by
  rcases gP h with⟨i,t,rfl,rfl⟩|⟨x,t,rfl,rfl⟩<;>rfl
 pyHash:=λf h=>by
  rcases gP f with⟨i,t,rfl,rfl⟩|⟨x,t,rfl,rfl⟩
  .exact wpAny_pyHash_int h
  .exact wpAny_pyHash_str h
 eqBool:=λl f h=>by
  rcases gP l with⟨i,t,rfl,rfl⟩|⟨x,t,rfl,rfl⟩
  .rcases gP f with⟨j,u,rfl,rfl⟩|⟨y,u,rfl,rfl⟩
   .rw[PZ]at h;exact wpAny_eqBool_int h
   .rw[O0]at h;exact SeqAt.EqAt.int_str i t y u _ _ _ _ h
  .rcases gP f with⟨j,u,rfl,rfl⟩|⟨y,u,rfl,rfl⟩
   .rw[NM]at h;exact SeqAt.EqAt.str_int x t j u _ _ _ _ h
   .rw[Os]at h;exact wpAny_eqBool_str h
 «strs»:=λk x t v h=>by
  rcases gP h with⟨i,u,rfl,e⟩|⟨y,u,rfl,e⟩
  .exact nomatch e
  .injection e with d _;subst d;cases v<;>rfl
def U6(a:Program)(w:World)(i:Int)(t:Tok):(kJ a w).is (.inl i) (.int i t):=aa2 i t
def WL(a:Program)(w:World)(x:Str)(t:Tok):(kJ a w).is (.inr x) (.str x t):=aaY x t
inductive V where
 |non|bl (b:Bool)|int (i:Int)|str (x:Str)|byt (b:Array UInt8)|flt (b:UInt64)|ref (a:Addr)|ty (n:String)
 deriving DecidableEq
abbrev xD:=Option V
abbrev xF:=List (bX×V)
abbrev xn:=List (Str×V)
abbrev Ζ:=List V
def z4:V->Value->Prop
 |.non,u=>u=Value.none
 |.bl b,u=>u=Value.bool b
 |.int i,u=>∃t,u=Value.int i t
 |.str x,u=>∃t,u=Value.str x t
 |.byt b,u=>∃t,u=Value.bytes b t
 |.flt b,u=>∃t,u=Value.float b t
 |.ref a,u=>u=Value.ref a
 |.ty n,u=>u=Value.type n
abbrev z5:Ζ->Θ->Prop:=Paired z4
def z5.length{J:Ζ}{a:Θ}(r:z5 J a):J.length=a.length:=Paired.length r
theorem z5.get:∀{J:Ζ}{a:Θ}{i:Nat}{x:V},z5 J a->J[i]?=some x->∃u,a[i]?=some u/\z4 x u
 |_,_,_,_,.nil,e=>by simp at e
 |_,_,0,_,.cons r _,e=>by simp at e;subst e;exact⟨_,rfl,r⟩
 |_,_,i+1,x,.cons _ t,e=>by
  obtain⟨u,c,b⟩:=z5.get (i:=i) (x:=x) t (by simpa using e);exact⟨u,by simpa using c,b⟩
theorem z5.set{x:V}{u:Value}(r:z4 x u):∀{J:Ζ}{a:Θ}(i:Nat),z5 J a->z5 (J.set i x) (a.set i u)
 |_,_,_,.nil=>.nil
 |_,_,0,.cons _ t=>.cons r t
 |_,_,i+1,.cons q t=>.cons q (z5.set r i t)
theorem z5.append:∀{J a:Ζ}{c b:Θ},z5 J c->z5 a b->z5 (J++a) (c++b)
 |_,_,_,_,.nil,s=>s
 |_,_,_,_,.cons r t,s=>.cons r (z5.append t s)
theorem z5.take:∀{J:Ζ}{a:Θ}(n:Nat),z5 J a->z5 (J.take n) (a.take n)
 |_,_,0,_=>.nil
 |_,_,_+1,.nil=>.nil
 |_,_,n+1,.cons r t=>.cons r (z5.take n t)
theorem z5.drop:∀{J:Ζ}{a:Θ}(n:Nat),z5 J a->z5 (J.drop n) (a.drop n)
 |_,_,0,r=>r
 |_,_,_+1,.nil=>.nil
 |_,_,n+1,.cons _ t=>z5.drop n t
def Cg:xD->Ω->Prop
 |some v,some u=>z4 v u
 |none,none=>True
 |_,_=>False
def KV{a:Type} : List (a×V)->List (a×Value)->Prop:=Paired λ(p:a×V)(q:a×Value)=>p.1=q.1/\z4 p.2 q.2
def kV:bX->V
 |.inl i=>.int i
 |.inr x=>.str x
inductive HO where
  |lst (J:Ζ)
  |tup (J:Ζ)
  |dK (kvs:xF)
  |set (S:Int->Bool) (n:Nat)
  |ins (C dx:Addr) (fs:xn)
  |own (x:Addr)
  |xd (fs:xn)
  |met (f x:Addr)
  |rng (lo hi:Int)
  |frz (o:Obj) (u:HO)
  |tbl (ps:xI)
  |ext (φ:Heap->Prop)
abbrev Hp:=Addr->Option HO
def upd(H:Hp)(a:Addr)(o:HO):Hp:=λb=>if b=a then some o else H b
variable{H Y:Hp}{a b x e:Addr}{o o':HO}{P:Program}{w:World}{h h':Heap}
def cF : upd H a o a=some o:=by unfold upd;rw[ZY rfl]
def cA(h:b≠a):upd H a o b=H b:=by unfold upd;rw[ZZ h]
def pu{u:HO}(h:H a=some o)(h':H b=some u)(d:o≠u):a≠b:=by
 intro e;subst e;rw[h]at h';exact d (Option.some.inj h')
def jO(h:H a=some o)(h':H b=none):a≠b:=by
 intro e;subst e;rw[h]at h';cases h'
section
variable(P:Program)(w:World)
def gG(H:Hp)(h:Heap)(a:Addr):HO->Prop
 |.lst J=>J.length<=sizeLine/\∃(b:Θ)(n:Nat),z5 J b/\h.get? a=some { cls:=.type "list",data:=.seq b.toArray n }
 |.tup J=>J.length<=sizeLine/\∃b:Θ,z5 J b/\IsTup h a b.toArray
 |.dK d=>d.length<=sizeLine/\(a==sysModules)=false/\∃j,KV d j/\h.DictOf (kJ P w) a j
 |.set S n=>h.SetOf (intKind P w) a S n
 |.ins C g e=>H g=some (.own a)/\e.length<=1000/\g≠a/\h.get? a=some (instObj C g) /\
   ∃c,h.Ns1 g c/\(∀f,Cg (e.lookup f) (c f))/\PySem.Within c (e.map (·.1))
 |.own _=>∃o,h.get? a=some o
 |.xd e=>∃c,h.Ns1 a c/\∀f,Cg (e.lookup f) (c f)
 |.rng lo p=>∃t u v,h.get? a=some { cls:=.type "range",data:=.fields #[.int lo t,.int p u,.int 1 v] }
 |.frz o u=>h.get? a=some o/\gG H h a u
 |.tbl m=>h.get? a=some { cls:=.none,data:=.fields m }
 |.met f x=>h.get? a=some (methodObj (.ref f) (.ref x))
 |.ext i=>i h/\(∃o,h.get? a=some o)/\∀l k:Heap,i l->(∀o,l.get? a=some o->k.get? a=some o)->i k
def HOk(H:Hp)(h:Heap):Prop:=∀a o,H a=some o->gG P w H h a o
end
def gG.lt(x:gG P w H h a o):a<h.objs.size:=by
 cases o with
 |lst J=>obtain⟨_,_,_,_,e⟩:=x;exact aK e
 |tup J=>obtain⟨_,_,_,p⟩:=x;exact p.lt
 |dK b=>obtain⟨_,_,_,_,o,_,_,e,_⟩:=x;exact aK e
 |set S n=>obtain⟨o,_,_,_,e,_⟩:=x;exact aK e
 |ins C k c=>obtain⟨_,_,_,e,_⟩:=x;exact aK e
 |own y=>obtain⟨_,e⟩:=x;exact aK e
 |xd c=>obtain⟨_,⟨_,_,_,e,_⟩,_⟩:=x;exact aK e
 |rng lo j=>obtain⟨_,_,_,e⟩:=x;exact aK e
 |frz i u=>obtain⟨e,_⟩:=x;exact aK e
 |tbl g=>exact aK (show h.get? a=some _ from x)
 |met f y=>exact aK (show h.get? a=some _ from x)
 |ext d=>obtain⟨_,⟨_,e⟩,_⟩:=x;exact aK e
def gG.stay(x:gG P w H h a o)(k:∀b u,(b=a\/H b=some (.own a))->h.get? b=some u->h'.get? b=some u)
 (I:∀b,H b=some (.own a)->Y b=some (.own a))(N:∀b J,H b=some (.tup J)->Y b=some (.tup J)):gG P w Y h' a o:=by
 induction o with
 |lst J=>obtain⟨z,i,n,r,e⟩:=x;exact⟨z,i,n,r,k _ _ (.inl rfl) e⟩
 |tup J=>obtain⟨z,i,r,g,e,c⟩:=x;exact⟨z,i,r,g,k _ _ (.inl rfl) e,c⟩
 |dK F=>obtain⟨z,y,D,r,g,j,l,e,c⟩:=x;exact⟨z,y,D,r,g,j,l,k _ _ (.inl rfl) e,c⟩
 |set S n=>obtain⟨g,j,l,t,e,c⟩:=x;exact⟨g,j,l,t,k _ _ (.inl rfl) e,c⟩
 |ins C Q K =>
  obtain⟨d,z,E,e,s,⟨m,j,l,L,c⟩,r⟩:=x;exact⟨I _ d,z,E,k _ _ (.inl rfl) e,s,⟨m,j,l,k _ _ (.inr d) L,c⟩,r⟩
 |own y=>obtain⟨g,e⟩:=x;exact⟨g,k _ _ (.inl rfl) e⟩
 |xd K=>obtain⟨s,⟨m,j,l,e,c⟩,r⟩:=x;exact⟨s,⟨m,j,l,k _ _ (.inl rfl) e,c⟩,r⟩
 |rng lo O=>obtain⟨t,u,v,e⟩:=x;exact⟨t,u,v,k _ _ (.inl rfl) e⟩
 |frz g u G=>obtain⟨e,q⟩:=x;exact⟨k _ _ (.inl rfl) e,G q⟩
 |tbl B =>
  have e:h.get? a=some { cls:=.none,data:=.fields B }:=x;show h'.get? a=some { cls:=.none,data:=.fields B };exact k a _ (.inl rfl) e
 |met f y =>
  have e:h.get? a=some (methodObj (.ref f) (.ref y)):=x;show h'.get? a=some (methodObj (.ref f) (.ref y));exact k a _ (.inl rfl) e
 |ext M=>obtain⟨p,⟨o,e⟩,A⟩:=x;exact⟨A _ _ p λo q=>k _ _ (.inl rfl) q,⟨o,k _ _ (.inl rfl) e⟩,A⟩
def HOk.lt(x:HOk P w H h)(e:H a=some o):a<h.objs.size:=(x a o e).lt
def HOk.fresh(x:HOk P w H h)(e:h.objs.size<=a):H a=none:=by
 cases q:H a with
 |none=>rfl
 |some u=>exact absurd (aR (x.lt q) e) (Wp _)
def HOk.kept(x:HOk P w H h)(k:∀b u,h.get? b=some u->h'.get? b=some u):HOk P w H h':=λa o e =>
 (x a o e).stay (λb u _ q=>k b u q) (λ_ q=>q) λ_ _ q=>q
def HOk.laid(x:HOk P w H h)(k:∀b u,h.get? b=some u->h'.get? b=some u)(i:h.objs.size<=a)(d:gG P w (upd H a o) h' a o):HOk P w (upd H a o) h':=λb u e=>by
 have f:=x.fresh i;by_cases g:b=a
 .subst g;rw[cF]at e;cases e;exact d
 .rw[cA g]at e;exact(x b u e).stay (λc v _ q=>k c v q) (λc q=>by rw[cA (jO q f)];exact q) λc J q=>by rw[cA (jO q f)];exact q
def Rd(H:Hp)(a:Addr)(u:HO):Prop:=H a=some u\/∃o,H a=some (.frz o u)
def Rd.of{u:HO}(h:H a=some u):Rd H a u:=.inl h
def Rd.ok{u:HO}(r:Rd H a u)(x:HOk P w H h):gG P w H h a u:=by
 rcases r with r|⟨o,r⟩
 .exact x a u r
 .obtain⟨_,q⟩:=x a _ r;exact q
def kt:Option HO->Prop
 |some (.lst _)=>True
 |some (.dK _)=>True
 |some (.set _ _)=>True
 |some (.ins _ _ _)=>True
 |some (.ext _)=>True
 |_=>False
def HOk.write(m:HOk P w H h)(d:kt (H x))(l:e=x\/H e=some (.own x))(k:∀b u,b≠e->h.get? b=some u->h'.get? b=some u)(o:∃u,h'.get? e=some u)
 (g:gG P w (upd H x o') h' x o'):HOk P w (upd H x o') h':=λb u q=>by
 have j:∀c y,H c=some (.own y)->c≠x:=λc y r z=>by subst z;rw[r]at d;exact d
 have n:∀c J,H c=some (.tup J)->c≠x:=λc J r z=>by subst z;rw[r]at d;exact d
 by_cases f:b=x
 .subst f;rw[cF]at q;cases q;exact g
 .rw[cA f]at q;by_cases a:b=e
  .have i:H b=some (.own x):=by
    rcases l with z|z
    .exact absurd (a.trans z) f
    .rw[a];exact z
   rw[q]at i;cases i;obtain⟨v,p⟩:=o;exact⟨v,by rwa[a]⟩
  .refine(m b u q).stay (λc v hc r=>k c v ?_ r) (λc r=>by rwa[cA (j c b r)]) λc J r=>by rwa[cA (n c J r)]
   rcases hc with rfl|hc
   .exact a
   .rintro rfl;rcases l with z|z
    .exact j c b hc z
    .rw[hc]at z;cases z;exact f rfl
structure Un(fs ex:Ψ)(H Y:Hp)(h h':Heap):Prop where
 keep:∀b o,h.get? b=some o->H b=none->b∉fs->b∉ex->h'.get? b=some o
 slot:∀b o,h.get? b=some o->H b=none->b∈fs->b∉ex->∃sl,h'.get? b=some { o with slots:=sl }
 free:∀b o,h.get? b=some o->H b=none->b∉ex->Y b=none
 there:∀b o,h.get? b=some o->b∉ex->∃o',h'.get? b=some o'
 tups:∀b J,H b=some (.tup J)->Y b=some (.tup J)
 frzs:∀b o u,H b=some (.frz o u)->Y b=some (.frz o u)
 tbls:∀b ps,H b=some (.tbl ps)->∃more,Y b=some (.tbl (ps++more))
section
variable{fs fs' ex ex':Ψ}{H Z H2:Hp}{h h1 h2 h':Heap}{a x e:Addr}{o:HO}
def Un.any(u:Un fs ex H Z h h1){a:Obj}(q:h.get? b=some a)(n:H b=none)(d:b∉ex):∃f,h1.get? b=some { a with slots:=f }:=by
 by_cases e:b∈fs
 .exact u.slot b a q n e d
 .exact⟨a.slots,u.keep b a q n e d⟩
def Un.kept(k:∀b u,h.get? b=some u->h'.get? b=some u):Un fs ex H H h h' :=
 ⟨λb a q _ _ _=>k b a q,λb a q _ _ _=>⟨a.slots,k b a q⟩,λ_ _ _ n _=>n,λb a q _=>⟨a,k b a q⟩,λ_ _ q=>q,λ_ _ _ q=>q,λ_ c q=>⟨#[],by rw[q];simp⟩⟩
def Un.refl:Un fs ex H H h h:=Un.kept λ_ _ q=>q
def Un.laid(k:∀b u,h.get? b=some u->h'.get? b=some u)(d:h.objs.size<=a)(c:H a=none):Un fs ex H (upd H a o) h h' where
 keep:=λb u q _ _ _=>k b u q
 slot:=λb u q _ _ _=>⟨u.slots,k b u q⟩
 free:=λb u q n _=>by rwa[cA (aQ (aR (aK q) d))]
 there:=λb u q _=>⟨u,k b u q⟩
 tups:=λb J q=>by rw[cA (jO q c)];exact q
 frzs:=λb u J q=>by rw[cA (jO q c)];exact q
 tbls:=λb e q=>⟨#[],by rw[cA (jO q c),q];simp⟩
def Un.write(c:kt (H x))(l:e=x\/H e=some (.own x))(k:∀b u,b≠e->h.get? b=some u->h'.get? b=some u)(j:∃u,h'.get? e=some u):Un fs ex H (upd H x o) h h':=by
 have f:∀b,H b=none->b≠x:=λb n z=>by subst z;rw[n]at c;exact c
 have g:∀b,H b=none->b≠e:=λb n z=>by
  subst z;rcases l with r|r
  .exact f b n r
  .rw[n]at r;cases r
 have d:∀b u,H b=some u->¬kt (some u)->b≠x:=λb u q i z=>by subst z;rw[q]at c;exact i c
 refine⟨λb u q n _ _=>k b u (g b n) q,λb u q n _ _=>⟨u.slots,k b u (g b n) q⟩,λb u q n _=>by rw[cA (f b n)];exact n,λb u q _=>?_,
  λb J q=>by rw[cA (d b _ q λz=>z)];exact q,λb u J q=>by rw[cA (d b _ q λz=>z)];exact q,λb m q=>⟨#[],by rw[cA (d b _ q λz=>z),q];simp⟩⟩
 by_cases a:b=e
 .subst a;exact j
 .exact⟨u,k b u a q⟩
end
def kF(h:Heap)(H:Hp):Ψ:=(range h.objs.size).filter λa=>(H a).isSome
def Dm(h:Heap)(H:Hp):Heap:=hideAll h (kF h H)
def Pu(h:Heap)(H:Hp):(Dm h H).objs.size=h.objs.size:=hideAll_size _ _
variable{o:Obj}
def Wq(e:h.get? b=some o)(n:H b=none):(Dm h H).get? b=some o :=
 hideAll_get _ e λa=>by
  have q:(H b).isSome:=(List.mem_filter.mp a).2;rw[n]at q;simp at q
def ZK(e:(Dm h H).get? b=some o):h.get? b=some o/\H b=none:=by
 have a:h.get? b=some o:=of_hideAll (kF h H) e;refine⟨a,?_⟩;cases q:H b with
 |none=>rfl
 |some x =>
  have c:b∈kF h H:=List.mem_filter.mpr ⟨List.mem_range.mpr (aK a),by simp[q]⟩;have z:(Dm h H).get? b=none:=hideAll_none (kF h H) c;rw[z]at e;cases e
def _W(g h:Heap)(L:Addr):Δ:=(range h.objs.size).filterMap λa=>if a=L\/(g.get? a).isSome=true then none else(h.get? a).map λo=>(a,o)
def rest(g h:Heap)(L d:Addr):Δ:=(_W g h L).filter λp=>decide (p.1≠d)
structure Mod(K:Frag)(mg:Str->Ω)(base:Heap):Prop where
 kin:K.In base
 glob:base.Ns mainGlobals mg
 blt:∃mb,base.Ns builtinsNs mb/\∀x:Str,x≠"__name__"->mb x=bootBuiltins x
 nolimit:base.NoLimit
structure Cx where
 prog:Program
 w:World
 K:Frag
 mg:Str->Ω
 base:Heap
 A:Around
 N:Φ
 s₀:Shared
 H₀:Hp
 env:Env
 outer:xt
 stack:xt
 ex:Ψ
 fn:Str->Bool
 calm:Bool
 pn:Δ
 xe:Ε
def ci(l:xt):Ψ:=l.filterMap (·.frame)
abbrev Cx.fs(X:Cx):Ψ:=ci X.outer
def kn(a:Scope)(x:Str):Prop:=a.names.lookup x=some .local\/a.names.lookup x=some .cell\/a.names.lookup x=some .free
def f0(a:Scope)(x:Str):Prop:=a.names.lookup x=some .local\/a.names.lookup x=some .cell
def Look(env:Env)(h:Heap)(m:Str->Ω)(x:Str)(u:Value):Prop :=
 (env.kindOf x=some .local/\m x=some u)\/((env.kindOf x=some .cell\/env.kindOf x=some .free)/\∃c,env.cells.lookup x=some c/\h.IsCell c (some u))
structure Cx.Ok(X:Cx):Prop where
 mod:Mod X.K X.mg X.base
 kind:X.env.scope.kind=.function
 glob:X.env.globals=mainGlobals
 blt:X.env.builtins=builtinsNs
 above:X.s₀.zs<=X.env.locals
 inj:∀x y c,X.env.cells.lookup x=some c->X.env.cells.lookup y=some c->x=y
 has:∀x,(X.env.kindOf x=some .cell\/X.env.kindOf x=some .free)->∃c,X.env.cells.lookup x=some c
 cab:∀x c,X.fn x->X.env.cells.lookup x=some c->X.s₀.zs<=c
 hd:X.calm->X.A.handled=none
 frames:X.A.frames=some X.stack
 stk:X.stack=X.outer\/(X.stack=X.env::X.outer/\X.env.frame=some X.env.locals)
 exf:∀b∈X.ex,b≠X.env.locals/\∀x c,X.env.cells.lookup x=some c->c≠b
 bs:∀b o,X.base.get? b=some o->X.s₀.heap.get? b=some o/\X.H₀ b=none
 bsz:X.base.objs.size<=X.s₀.zs
 noex:∀b o,X.base.get? b=some o->b∉X.ex
 exfs:∀b∈X.ex,b∉X.fs
 funs:X.s₀.heap.FunFrames X.base X.outer
 frf:∀b∈X.fs,X.H₀ b=none
structure Inv(X:Cx)(U:Δ)(O:List xD)(H:Hp)(s:Shared):Prop where
 ok:X.Ok
 os:s.os=X.s₀.os
 bare:AllBare s.gens
 base:Un X.fs X.ex X.H₀ H X.s₀.heap s.heap
 loc:∃m,s.heap.Ns X.env.locals m/\∀(i:Nat)(x:Str)(v:V),X.N[i]?=some x->O[i]?=some (some v)->kn X.env.scope x->∃u,z4 v u/\Look X.env s.heap m x u
 cell:∀x c,X.env.cells.lookup x=some c->∃v,s.heap.IsCell c v
 free:H X.env.locals=none
 freeC:∀x c,X.env.cells.lookup x=some c->H c=none
 pin:∀p∈X.pn++U,s.heap.get? p.1=some p.2/\H p.1=none/\p.1≠X.env.locals/\p.1∉X.fs/\∀v,p.2.data≠.cell v
 hok:HOk X.prog X.w H s.heap
 len:O.length=X.N.length
variable{X:Cx}{U:Δ}{O:List xD}{s s':Shared}{g':Array GenState}{t' i:Nat}{ch:Ψ}{x:Str}{u:Value}{M:Model}{A:Around}{E:Ε}{v:V}{Q:Unit->Shared->Prop}{e:Expr}
def Cx.Ok.nofr(a:X.Ok)(e:X.base.get? b=some o):b∉X.fs:=λc=>by
 have:=(a.funs.mem c).1;rw[e]at this;cases this
def Inv.bs(I:Inv X U O H s):∀b o,X.base.get? b=some o->s.heap.get? b=some o/\H b=none:=λb o e =>
 ⟨I.base.keep b o (I.ok.bs b o e).1 (I.ok.bs b o e).2 (I.ok.nofr e) (I.ok.noex b o e),I.base.free b o (I.ok.bs b o e).1 (I.ok.bs b o e).2 (I.ok.noex b o e)⟩
def Inv.bk(I:Inv X U O H s):∀b o,X.base.get? b=some o->s.heap.get? b=some o:=λb o e=>(I.bs b o e).1
def Inv.mod(I:Inv X U O H s):Mod X.K X.mg X.base:=I.ok.mod
def Inv.kIn(I:Inv X U O H s):X.K.In s.heap:=I.ok.mod.kin.keeps I.bk
def Inv.fr(I:Inv X U O H s):∃m,Fr X.base X.env.locals s.heap m :=
 let⟨m,a,_⟩:=I.loc
 ⟨m,a,I.bk,aL I.ok.bsz I.ok.above⟩
def Inv.lt(I:Inv X U O H s):X.env.locals<s.zs:=by obtain⟨_,a,_⟩:=I.loc;exact a.lt
def Inv.sz(I:Inv X U O H s):X.s₀.zs<=s.zs:=aL I.ok.above (Y2 I.lt)
def Inv.nofs(I:Inv X U O H s)(h:s.zs<=a):a∉X.fs:=λc=>by
 obtain⟨_,o,b,_⟩:=I.ok.funs.mem c;exact absurd (aR (aK b) (aL I.sz h)) (Wp _)
def Inv.cne(I:Inv X U O H s):∀x c,X.env.cells.lookup x=some c->c≠X.env.locals:=λx c e z=>by
 obtain⟨v,o,a,hd⟩:=I.cell x c e;obtain⟨m,⟨o',f,g,b,d,_⟩,_⟩:=I.loc;rw[z,b]at a;cases a;rw[d]at hd;cases hd
def Inv.funs(I:Inv X U O H s):s.heap.FunFrames X.base X.outer:=by
 have all:∀(l:xt),(∀b∈ci l,b∈X.fs)->X.s₀.heap.FunFrames X.base l->s.heap.FunFrames X.base l:=by
  intro l
  induction l with
  |nil=>intro _ _;trivial
  |cons env r g =>
   intro f k;obtain⟨m,⟨L,o,a,j,i,hd⟩,h⟩:=k;have d:L∈X.fs:=f L (by unfold ci;rw[j',a];exact aO);obtain⟨n,e⟩:=I.base.slot L o i (I.ok.frf L d) d λz=>I.ok.exfs L z d;exact⟨m,⟨L,_,a,j,e,hd⟩,g (λb c=>f b (by unfold ci;rw[j',a];exact aJ _ c)) h⟩
 exact all X.outer (λ_ c=>c) I.ok.funs
def Inv.stack(I:Inv X U O H s):s.heap.FunFrames X.base X.stack:=by
 rcases I.ok.stk with e|⟨e,b⟩
 .rw[e];exact I.funs
 .rw[e];obtain⟨m,a,_⟩:=I.loc;refine .cons (by rw[I.ok.kind];decide) b a ?_ I.funs;exact Heap.get?_none_of_le (aL I.ok.bsz I.ok.above)
def Inv.stkSub(I:Inv X U O H s):∀b∈ci X.stack,b∈X.env.locals::X.fs:=λb a=>by
 rcases I.ok.stk with e|⟨e,c⟩
 .rw[e]at a;exact aJ _ a
 .rw[e]at a;unfold ci at a;rw[j',c]at a;exact a
def Inv.stkFree(I:Inv X U O H s):∀b∈ci X.stack,H b=none:=λb a=>by
 rcases YU.mp (I.stkSub b a)with e|a
 .rw[e];exact I.free
 .obtain⟨_,o,c,_⟩:=I.ok.funs.mem a;exact I.base.free b o c (I.ok.frf b a) λz=>I.ok.exfs b z a
def Inv.step{d':Drawn}(I:Inv X U O H s)
 (E:∀b∈ch,(b∈X.ex\/X.s₀.zs<=b)/\b≠X.env.locals/\(∀x c,X.env.cells.lookup x=some c->c≠b)/\∀p∈X.pn++U,p.1≠b)
 (f:∀b o,b≠X.env.locals->b∉X.fs->b∉ch->s.heap.get? b=some o->H b=none->h'.get? b=some o)
 (slot:∀b o,b≠X.env.locals->b∈X.fs->b∉ch->s.heap.get? b=some o->H b=none->∃P,h'.get? b=some { o with slots:=P })(free:∀b o,b∉ch->s.heap.get? b=some o->H b=none->Y b=none)
 (h:∀b o,b∉ch->s.heap.get? b=some o->∃o',h'.get? b=some o')
 (y:∀b J,H b=some (.tup J)->Y b=some (.tup J))(F:∀b o u,H b=some (.frz o u)->Y b=some (.frz o u))(A:∀b K,H b=some (.tbl K)->∃C,Y b=some (.tbl (K++C)))
 (Z:∀m,s.heap.Ns X.env.locals m->h'.Ns X.env.locals m)(hok:HOk X.prog X.w Y h')(hg:AllBare g') :
  Inv X U O Y { s with heap:=h',gens:=g',drawn:=d',toks:=t' }:=by
 have B:∀b o,X.s₀.heap.get? b=some o->b≠X.env.locals:=λb o e=>aQ (aR (aK e) I.ok.above);have L:∀b o,X.s₀.heap.get? b=some o->b∉X.ex->b∉ch:=λb o e a j=>by
  rcases(E b j).1 with z|z
  .exact a z
  .exact absurd (aR (aK e) z) (Wp _)
 have S:∀x c,X.env.cells.lookup x=some c->∀v,s.heap.IsCell c v->h'.IsCell c v:=λx c e v hP=>by
  obtain⟨o,t,hd⟩:=hP;have D:c∉ch:=λz=>(E c z).2.2.1 x c e rfl;by_cases W:c∈X.fs
  .obtain⟨P,q⟩:=slot c o (I.cne x c e) W D t (I.freeC x c e);exact⟨_,q,hd⟩
  .exact⟨o,f c o (I.cne x c e) W D t (I.freeC x c e),hd⟩
 refine⟨I.ok,I.os,hg,⟨λb o e n j a=>?_,λb o e n j a=>?_,λb o e n a=>?_,λb o e a=>?_,λb J e=>y b J (I.base.tups b J e),λb o J e=>F b o J (I.base.frzs b o J e),λb K e=>?_⟩,?_,λx c e=>?_,?_,λx c e=>?_,λp T=>?_,hok,I.len⟩
 .exact f b o (B b o e) j (L b o e a) (I.base.keep b o e n j a) (I.base.free b o e n a)
 .obtain⟨P,g⟩:=I.base.slot b o e n j a;obtain⟨N,G⟩:=slot b _ (B b o e) j (L b o e a) g (I.base.free b o e n a);exact⟨N,G⟩
 .obtain⟨o',g⟩:=I.base.there b o e a;exact free b o' (L b o e a) g (I.base.free b o e n a)
 .obtain⟨o',g⟩:=I.base.there b o e a;exact h b o' (L b o e a) g
 .obtain⟨m1,g⟩:=I.base.tbls b K e;obtain⟨m2,G⟩:=A b _ g;exact⟨m1++m2,by rw[G,Array.append_assoc]⟩
 .obtain⟨m,hn,hl⟩:=I.loc;refine⟨m,Z m hn,λi x v g G e3=>?_⟩;obtain⟨u,r,l⟩:=hl i x v g G e3;refine⟨u,r,?_⟩;rcases l with l|⟨k,c,e,z⟩
  .exact .inl l
  .exact .inr ⟨k,c,e,S x c e _ z⟩
 .obtain⟨v,z⟩:=I.cell x c e;exact⟨v,S x c e v z⟩
 .obtain⟨m,⟨o,_,_,t,_⟩,_⟩:=I.loc;exact free _ o (λz=>(E _ z).2.1 rfl) t I.free
 .obtain⟨v,o,t,hd⟩:=I.cell x c e;exact free c o (λz=>(E c z).2.2.1 x c e rfl) t (I.freeC x c e)
 .obtain⟨e,n,R,Q,d⟩:=I.pin p T;have D:p.1∉ch:=λz=>(E p.1 z).2.2.2 p T rfl;exact⟨f p.1 p.2 R Q D e n,free p.1 p.2 D e n,R,Q,d⟩
def Inv.un(I:Inv X U O H s)(u:Un X.fs [] H Y s.heap h')(hok:HOk X.prog X.w Y h'):Inv X U O Y { s with heap:=h',toks:=t' }:=by
 obtain⟨m,⟨o,q,t,c,r⟩,_⟩:=id I.loc;obtain⟨l,j⟩:=u.any c I.free wr;exact I.step (g':=s.gens) (d':=s.drawn) (ch:=[]) (λ_ z=>nomatch z) (λb o _ a _ e n=>u.keep b o e n a wr) (λb o _ a _ e n=>u.slot b o e n a wr) (λb o _ e n=>u.free b o e n wr) (λb o _ e=>u.there b o e wr) u.tups u.frzs u.tbls (λp i=>by
  obtain⟨o',k,h,f,g⟩:=i;rw[c]at f;cases f;exact⟨_,k,h,j,g⟩) hok I.bare
def Inv.call{d':Drawn}(I:Inv X U O H s)(u:Un (ci X.stack) ch H Y s.heap h')(hok:HOk X.prog X.w Y h')(l:AllBare g')
 (g:∀b∈ch,(b∈X.ex\/X.s₀.zs<=b)/\b≠X.env.locals/\(∀x c,X.env.cells.lookup x=some c->c≠b)/\∀p∈X.pn++U,p.1≠b) :
  Inv X U O Y { s with heap:=h',gens:=g',drawn:=d',toks:=t' }:=by
 obtain⟨m,⟨o,A,B,d,r⟩,_⟩:=id I.loc;obtain⟨v,a⟩:=u.any d I.free λz=>(g _ z).2.1 rfl;exact I.step (ch:=ch) g (λb o a q hc e n=>u.keep b o e n (λz=>(YU.mp (I.stkSub b z)).elim a q) hc) (λb o _ _ hc e n=>u.any e n hc) (λb o hc e n=>u.free b o e n hc) (λb o hc e=>u.there b o e hc) u.tups u.frzs u.tbls (λy k=>by
  obtain⟨o',t,j,h,i⟩:=k;rw[d]at h;cases h;exact⟨_,t,j,a,i⟩) hok l
def Inv.turned{it:Addr}(I:Inv X U O H s)(k:∀b o,b≠it->s.heap.get? b=some o->h'.get? b=some o)(h:H it=none)(f:it≠X.env.locals)
 (w:it∈X.ex\/X.s₀.zs<=it)(t:∀x c,X.env.cells.lookup x=some c->c≠it)(l:∀p∈X.pn++U,p.1≠it):Inv X U O H { s with heap:=h',toks:=t' }:=by
 have a:∀b u,H b=some u->b≠it:=λb u e z=>by rw[z,h]at e;cases e
 refine I.step (g':=s.gens) (d':=s.drawn) (ch:=[it]) (λb j=>?_) (λb o _ _ hc e _=>k b o (λz=>hc (by simp[z])) e) (λb o _ _ hc e _=>⟨o.slots,k b o (λz=>hc (by simp[z])) e⟩) (λ_ _ _ _ n=>n)
  (λb o hc e=>⟨o,k b o (λz=>hc (by simp[z])) e⟩) (λ_ _ e=>e) (λ_ _ _ e=>e) (λb B e=>⟨#[],by rw[e];simp⟩) (λm i=>?_) (λb u e=>?_) I.bare
 .have e:b=it:=by simpa using j
  subst e;exact⟨w,f,t,l⟩
 .obtain⟨o,y,A,g,r⟩:=i;exact⟨o,y,A,k _ o (Ne.symm f) g,r⟩
 .refine(I.hok b u e).stay (λc v hc q=>k c v ?_ q) (λ_ q=>q) λ_ _ q=>q;rcases hc with z|z
  .rw[z];exact a b u e
  .exact a c _ z
def Inv.tok(I:Inv X U O H s)(t:Nat):Inv X U O H { s with toks:=t }:=I.un (h':=s.heap) (t':=t) Un.refl I.hok
def Inv.kept{t':Nat}(I:Inv X U O H s)(k:∀b u,s.heap.get? b=some u->h'.get? b=some u):Inv X U O H { s with heap:=h',toks:=t' }:=I.un (Un.kept k) (I.hok.kept k)
def Inv.laid{a:Addr}{o:HO}{t':Nat}(I:Inv X U O H s)(k:∀b u,s.heap.get? b=some u->h'.get? b=some u)(d:s.zs<=a)(c:gG X.prog X.w (upd H a o) h' a o) :
  Inv X U O (upd H a o) { s with heap:=h',toks:=t' }:=I.un (Un.laid k d (I.hok.fresh d)) (I.hok.laid k d c)
def Inv.write{x e:Addr}{o:HO}{t':Nat}(I:Inv X U O H s)(c:kt (H x))(g:e=x\/H e=some (.own x))(k:∀b u,b≠e->s.heap.get? b=some u->h'.get? b=some u)(d:∃u,h'.get? e=some u)
 (a:gG X.prog X.w (upd H x o) h' x o):Inv X U O (upd H x o) { s with heap:=h',toks:=t' }:=I.un (Un.write c g k d) (I.hok.write c g k d a)
def Inv.pins_of{a:Δ}(I:Inv X U O H s)(h:∀p∈a,s.heap.get? p.1=some p.2/\H p.1=none/\p.1≠X.env.locals/\p.1∉X.fs/\∀v,p.2.data≠.cell v):Inv X a O H s :=
 ⟨I.ok,I.os,I.bare,I.base,I.loc,I.cell,I.free,I.freeC,λp b=>(Y1.mp b).elim (λz=>I.pin p (U2 _ z)) (h p),I.hok,I.len⟩
def Wv{N:Φ}(c:N.Nodup){j:Nat}(a:N[i]?=some x)(b:N[j]?=some x):i=j:=by
 obtain⟨g,e⟩:=ao.mp a;obtain⟨f,d⟩:=ao.mp b;exact(List.getElem_inj c).mp (e.trans d.symm)
abbrev zw(X:Cx)(a:Str):Prop:=X.fn a=true\/X.env.scope.names.lookup a=some .local
def aa0(I:Inv X U O H s)(hN:X.N.Nodup)(J:X.N[i]?=some x)(l:f0 X.env.scope x)(r:z4 v u)
 (h:∀s',Inv X U (O.set i (some v)) H s'->(∃a,Heap.SameBut a s.heap s'.heap/\(a=X.env.locals\/X.env.cells.lookup x=some a))->Q () s')(hf:zw X x):wpAny M A (storeName X.env x u) Q E s:=by
 obtain⟨m,hn,hl⟩:=id I.loc;have pc:(X.env.scope.kind == .class || (X.env.scope.kind == .module&&X.env.locals != X.env.globals))=false:=by rw[I.ok.kind];rfl
 have C:i<O.length:=by rw[I.len];exact(ao.mp J).1
 have G:=I.cne;have eL:∀{a:Addr}{h':Heap},(∃o,s.heap.get? a=some o/\H a=none)->Heap.SameBut a s.heap h'->HOk X.prog X.w H h':=λ{a h'}ha f b ob e=>by
  obtain⟨_,_,bP⟩:=ha;refine(I.hok b ob e).stay (λc K hc q=>(f.2 c ?_).trans q) (λ_ q=>q) λ_ _ q=>q;rintro rfl;rcases hc with rfl|hc
  .rw[bP]at e;cases e
  .rw[bP]at hc;cases hc
 rcases l with B|B
 .refine wpAny_storeName_local B hn (λh' hn' f=>?_) pc;obtain⟨oL,_,_,hoL,_⟩:=id hn;refine h _ ⟨I.ok,I.os,I.bare,⟨λb o e n F l=>?_,λb o e n F l=>?_,I.base.free,λb o e l=>?_,I.base.tups,I.base.frzs,I.base.tbls⟩,⟨_,hn',λj y R g t e3=>?_⟩,λy c e=>?_,I.free,I.freeC,λp Z=>?_,eL ⟨oL,hoL,I.free⟩ f,by simpa using I.len⟩ ⟨_,f,.inl rfl⟩
  .exact(f.2 b (aQ (aR (aK e) I.ok.above))).trans (I.base.keep b o e n F l)
  .obtain⟨T,g⟩:=I.base.slot b o e n F l;exact⟨T,(f.2 b (aQ (aR (aK e) I.ok.above))).trans g⟩
  .obtain⟨o',g⟩:=I.base.there b o e l;exact⟨o',(f.2 b (aQ (aR (aK e) I.ok.above))).trans g⟩
  .by_cases D:j=i
   .subst D;rw[J]at g;cases g;rw[Tx C]at t;cases t;exact⟨u,r,.inl ⟨B,by simp⟩⟩
   .rw[UT (Ne.symm D)]at t;obtain⟨S,V,q⟩:=hl j y R g t e3;refine⟨S,V,?_⟩;rcases q with⟨k,e⟩|⟨k,c,e,z⟩
    .refine .inl ⟨k,?_⟩;have:y≠x:=λe=>D (Wv hN g (e ▸ J));simp[this,e]
    .exact .inr ⟨k,c,e,z.sameBut f (G y c e)⟩
  .obtain⟨K,z⟩:=I.cell y c e;exact⟨K,z.sameBut f (G y c e)⟩
  .obtain⟨e,n,L,W,d⟩:=I.pin p Z;exact⟨(f.2 p.1 L).trans e,n,L,W,d⟩
 .have Y:X.fn x:=by
   rcases hf with z|z
   .exact z
   .rw[z]at B;cases B
  obtain⟨c,hc⟩:=I.ok.has x (.inl B);obtain⟨K,z⟩:=I.cell x c hc;refine wpAny_storeName_cell I.ok.kind B hc z (λh' du f=>?_);obtain⟨oc,hV,oq⟩:=id z;refine h { s with heap:=h' } ⟨I.ok,I.os,I.bare,⟨λb o e n F l=>?_,λb o e n F l=>?_,I.base.free,λb o e l=>?_,I.base.tups,I.base.frzs,I.base.tbls⟩,⟨m,hn.sameBut f (Ne.symm (G x c hc)),λj y R g t e3=>?_⟩,λy P e=>?_,I.free,I.freeC,λp Z=>?_,eL ⟨oc,hV,I.freeC x c hc⟩ f,by simpa using I.len⟩ ⟨c,f,.inr hc⟩
  .exact(f.2 b (aQ (aR (aK e) (I.ok.cab x c Y hc)))).trans (I.base.keep b o e n F l)
  .obtain⟨T,g⟩:=I.base.slot b o e n F l;exact⟨T,(f.2 b (aQ (aR (aK e) (I.ok.cab x c Y hc)))).trans g⟩
  .obtain⟨o',g⟩:=I.base.there b o e l;exact⟨o',(f.2 b (aQ (aR (aK e) (I.ok.cab x c Y hc)))).trans g⟩
  .by_cases D:j=i
   .subst D;rw[J]at g;cases g;rw[Tx C]at t;cases t;exact⟨u,r,.inr ⟨.inl B,c,hc,du⟩⟩
   .rw[UT (Ne.symm D)]at t;obtain⟨S,V,q⟩:=hl j y R g t e3;refine⟨S,V,?_⟩;rcases q with q|⟨k,P,e,z'⟩
    .exact .inl q
    .refine .inr ⟨k,P,e,z'.sameBut f ?_⟩;rintro rfl;exact D (Wv hN g (I.ok.inj _ _ _ e hc ▸ J))
  .by_cases l9:P=c
   .subst l9;exact⟨_,du⟩
   .obtain⟨w2,z2⟩:=I.cell y P e;exact⟨w2,z2.sameBut f l9⟩
  .obtain⟨e,n,L,W,d⟩:=I.pin p Z;refine⟨(f.2 p.1 ?_).trans e,n,L,W,d⟩;intro q;rw[q,hV]at e;have q':oc=p.2:=Option.some.inj e;exact d K (by rwa[<- q'])
def Ag(I:Inv X U O H s)(d:X.N.Nodup)(b:X.N[i]?=some x)(a:f0 X.env.scope x)(r:z4 v u)
 (h:∀s',Inv X U (O.set i (some v)) H s'->Q () s')(c:zw X x:=by first|exact .inl rfl|exact .inr rfl|assumption):wpAny M A (storeName X.env x u) Q E s :=
 aa0 I d b a r (λs' e _=>h s' e) c
def Inv.call'(I:Inv X U O H s)(d:s'.os=s.os)(u:Un (ci X.stack) ch H Y s.heap s'.heap)(hok:HOk X.prog X.w Y s'.heap)(f:AllBare s'.gens)
 (g:∀b∈ch,(b∈X.ex\/X.s₀.zs<=b)/\b≠X.env.locals/\(∀x c,X.env.cells.lookup x=some c->c≠b)/\∀p∈X.pn++U,p.1≠b):Inv X U O Y s':=by
 obtain⟨h',g',a,t',o'⟩:=s';have e:o'=s.os:=d;subst e;exact I.call (g':=g') (t':=t') (d':=a) u hok f g
abbrev XK:=Value->Ξ->Hp->Prop
abbrev St:=List xD
abbrev VK:=V->Hp->Prop
abbrev TE:=St->Hp->VK->Prop
abbrev TT:=St->Hp->(Bool->Hp->Prop)->Prop
abbrev TA:=St->Hp->(Ζ->Hp->Prop)->Prop
structure Ends where
 nx:St->Hp->Prop
 rt:VK
 bk:St->Hp->Prop:=λ_ _=>False
 ct:St->Hp->Prop:=λ_ _=>False
abbrev TS:=Ends->St->Hp->Prop
def EP(X:Cx)(U:Δ)(O:St)(Q:VK)(u:Value)(s':Shared):Prop:=∃v Y,Inv X U O Y s'/\z4 v u/\Q v Y
def TP(X:Cx)(U:Δ)(O:St)(Q:Bool->Hp->Prop)(b:Bool)(s':Shared):Prop:=∃Y,Inv X U O Y s'/\Q b Y
def AP(X:Cx)(U:Δ)(O:St)(Q:Ζ->Hp->Prop)(b:Θ)(s':Shared):Prop:=∃a Y,Inv X U O Y s'/\z5 a b/\Q a Y
def SP(X:Cx)(U:Δ)(D:Ends)(f:Flow)(s':Shared):Prop :=
 match f with
 |.next=>∃a Y,Inv X U a Y s'/\D.nx a Y
 |.brk=>∃a Y,Inv X U a Y s'/\D.bk a Y
 |.cont=>∃a Y,Inv X U a Y s'/\D.ct a Y
 |.ret u=>∃v a Y,Inv X U a Y s'/\z4 v u/\D.rt v Y
def PE(X:Cx)(e:Expr)(t:TE):Prop :=
 ∀(U:Δ)(s:Shared)(O:St)(H:Hp)(Q:VK),Inv X U O H s->t O H Q->wpAny (model X.prog X.w) X.A (eval e X.env) (EP X U O Q) X.xe s
def PT(X:Cx)(e:Expr)(t:TT):Prop :=
 ∀(U:Δ)(s:Shared)(O:St)(H:Hp)(Q:Bool->Hp->Prop),Inv X U O H s->t O H Q->wpAny (model X.prog X.w) X.A (isTrue e X.env (eval e X.env)) (TP X U O Q) X.xe s
def PW(X:Cx)(e:Expr)(t:TT):Prop :=
 ∀(a:Sem Value)(U:Δ)(s:Shared)(O:St)(H:Hp)(Q:Bool->Hp->Prop),Inv X U O H s->t O H Q->wpAny (model X.prog X.w) X.A (isTrue e X.env a) (TP X U O Q) X.xe s
def PW.pt{X:Cx}{t:TT}(h:PW X e t):PT X e t:=h _
def PA(X:Cx)(a:xw)(t:TA):Prop :=
 ∀(N:Pos)(U:Δ)(s:Shared)(O:St)(H:Hp)(Q:Ζ->Hp->Prop),Inv X U O H s->t O H Q->wpAny (model X.prog X.w) X.A (spliced (backTo N (starEach a X.env))) (AP X U O Q) X.xe s
def PS(X:Cx)(a:Stmt)(t:TS):Prop :=
 ∀(U:Δ)(s:Shared)(O:St)(H:Hp)(D:Ends),Inv X U O H s->t D O H->wpAny (model X.prog X.w) X.A (exec a X.env) (SP X U D) X.xe s
def PSs(X:Cx)(a:xS)(t:TS):Prop :=
 ∀(U:Δ)(s:Shared)(O:St)(H:Hp)(D:Ends),Inv X U O H s->t D O H->wpAny (model X.prog X.w) X.A (execs a X.env) (SP X U D) X.xe s
def ah{b:Type}{t:Sem b}{Q c:b->Shared->Prop}(h:wpAny M A t Q E s)(d:∀a s,Q a s->c a s):wpAny M A t c E s:=wpAny_mono h d λ_ _ x=>x
variable{O:St}{c tg:Expr}{J ys:Ζ}{K:Frag}{N bo:Pos}{es:xw}{k:Nat}{te:TE}
section
variable{X:Cx}
def ot(i:Nat):TE:=λO H Q=>∃v,O[i]?=some (some v)/\Q v H
def tC(v:V):TE:=λ_ H Q=>Q v H
abbrev qV(a:Str):Prop:=(a==("__debug__":Str))=false
abbrev qB(a:Str):Prop:=(a==("__classdict__":Str))=false
def QN{N:Pos}(o:X.N[i]?=some x)(g:kn X.env.scope x)(hd:qV x:=by decide)(p:qB x:=by decide):PE X (.Name x N) (ot i):=by
 intro U s O H Q I h;obtain⟨v,e,h⟩:=h;obtain⟨m,j,n⟩:=I.loc;obtain⟨u,r,l⟩:=n i x v o e g;have b:EP X U O Q u s:=⟨v,H,I,r,h⟩;rcases l with⟨a,k⟩|⟨a,c,d,f⟩
 .exact wpAny_Name (wpAny_loadName_local I.ok.kind a j k b) hd
 .rcases a with a|a
  .exact wpAny_Name (wpAny_loadName_cell I.ok.kind a d f b) hd
  .exact wpAny_Name (wpAny_loadName_free I.ok.kind a d f b p) hd
def PN{i j N} : PE X (.Constant (.int i) j N) (tC (.int i)):=λ_ _ _ H _ I h=>wpAny_Constant_int ⟨.int i,H,I.tok _,⟨_,rfl⟩,h⟩
def MO{b j N} : PE X (.Constant (.bool b) j N) (tC (.bl b)):=λ_ _ _ H _ I h=>Constant_bool ⟨.bl b,H,I,rfl,h⟩
def SH{j N} : PE X (.Constant .none j N) (tC .non):=λ_ _ _ H _ I h=>Constant_none ⟨.non,H,I,rfl,h⟩
def PQ{x j N} : PE X (.Constant (.str x) j N) (tC (.str x)):=λ_ _ _ H _ I h=>Calls.Constant_str ⟨.str x,H,I.tok _,⟨_,rfl⟩,h⟩
def Gl(X:Cx)(x:Str):Prop:=X.env.kindOf x=some .globalImplicit
def FW{N:Pos}{Q:Ε}(I:Inv X U O H s)(b:Gl X x)(a:X.mg x=some u)(h:Q u s)
 (hd:qV x:=by decide):wpAny (model X.prog X.w) X.A (eval (.Name x N) X.env) Q E s :=
 Calls.Name_function_global I.ok.kind b (Calls.loadGlobal_global (by rw[I.ok.glob];exact I.mod.glob.keeps I.bk) a h) hd
def DR{N:Pos}{Q:Ε}(I:Inv X U O H s)(d:Gl X x)(c:X.mg x=none)(a:bootBuiltins x=some u)(h:Q u s)
 (b:x≠"__name__":=by decide)(hd:qV x:=by decide):wpAny (model X.prog X.w) X.A (eval (.Name x N) X.env) Q E s:=by
 obtain⟨g,f,e⟩:=I.mod.blt;exact Calls.Name_function_global I.ok.kind d (Calls.loadGlobal_builtin (by rw[I.ok.glob];exact I.mod.glob.keeps I.bk) c (by rw[I.ok.blt];exact f.keeps I.bk) ((e x b).trans a) h) hd
def Fa{N:Pos}(b:Gl X x)(a:X.mg x=some u)(r:z4 v u)(hd:qV x:=by decide):PE X (.Name x N) (tC v) :=
 λ_ _ _ H _ I h=>FW I b a ⟨v,H,I,r,h⟩ hd
def TD{N:Pos}(d:Gl X x)(c:X.mg x=none)(a:bootBuiltins x=some u)(r:z4 v u)(b:x≠"__name__":=by decide)(hd:qV x:=by decide):PE X (.Name x N) (tC v) :=
 λ_ _ _ H _ I h=>DR I d c a ⟨v,H,I,r,h⟩ b hd
variable{a b:Expr}{ta tb:TE}{N:Pos}
def PC(X:Cx)(e:CmpOp)(a b:Expr)(t:TE):Prop :=
 ∀(U:Δ)(s:Shared)(O:St)(H:Hp)(Q:VK),Inv X U O H s->t O H Q ->
  wpAny (model X.prog X.w) X.A (eval a X.env) (λv d=>wpAny (model X.prog X.w) X.A (eval b X.env) (λu c=>wpAny (model X.prog X.w) X.A (compareOp e v u) (EP X U O Q) X.xe c) X.xe d) X.xe s
def tB(t:TE):TT:=λO H Q=>t O H λx Z=>∃c,x=.bl c/\Q c Z
def DM{e:CmpOp}{t:TE}(h:PC X e a b t)(f:behindInMarks e b=false:=by rfl):PT X (.Compare a [e] [b] N) (tB t):=by
 intro U s O H Q I hw;refine wpAny_isTrue_Compare1 (ah (h U s O H _ I hw) λv o f=>ah f λu n k=>ah k λc m j=>?_) f;obtain⟨x,Z,l,g,i⟩:=j;obtain⟨d,rfl,q⟩:=i;cases g;exact wpAny_truthy_bool ⟨Z,l,q⟩
variable{tA kX:TT}{rest:xw}
def IU(t u:TT):TT:=λO H Q=>t O H λc Z=>if c=true then u O Z Q else Q false Z
def F0(t u:TT):TT:=λO H Q=>t O H λc Z=>if c=true then Q true Z else u O Z Q
def ID(t:TT):TT:=λO H Q=>t O H λc Z=>Q (!c) Z
def pw_and1(b:PT X a tA):PW X (.BoolOp .And [a] N) tA:=by
 intro d U s O H Q I h;refine isTrue_and (ah (b U s O H Q I h) λc f e=>?_);cases c with
 |true=>exact isTrue_and_nil e
 |false=>exact e
def pw_or1(b:PT X a tA):PW X (.BoolOp .Or [a] N) tA:=by
 intro d U s O H Q I h;refine isTrue_or (ah (b U s O H Q I h) λc f e=>?_);cases c with
 |false=>exact isTrue_or_nil e
 |true=>exact e
def pw_and(j:PT X a tA)(i:PW X (.BoolOp .And (b::rest) N) kX):PW X (.BoolOp .And (a::b::rest) N) (IU tA kX):=by
 intro f U s O H Q I h;refine isTrue_and (ah (j U s O H _ I h) λc g k=>?_);obtain⟨Z,e,d⟩:=k;cases c with
 |true=>exact i f U g O Z Q e d
 |false=>exact⟨Z,e,d⟩
def pw_or(j:PT X a tA)(i:PW X (.BoolOp .Or (b::rest) N) kX):PW X (.BoolOp .Or (a::b::rest) N) (F0 tA kX):=by
 intro f U s O H Q I h;refine isTrue_or (ah (j U s O H _ I h) λc g k=>?_);obtain⟨Z,e,d⟩:=k;cases c with
 |true=>exact⟨Z,e,d⟩
 |false=>exact i f U g O Z Q e d
def NO(b:PT X a tA):PT X (.UnaryOp .Not a N) (ID tA):=by
 intro U s O H Q I h;exact isTrue_not (b U s O H (λc Z=>Q (!c) Z) I h)
def Nl(ta tb:TE):TE:=λO H Q=>ta O H λx Z=>∃c,x=.bl c/\if c=true then tb O Z Q else Q (.bl false) Z
def MM(ta:TE):TE:=λO H Q=>ta O H λx Z=>∃c,x=.bl c/\Q (.bl (!c)) Z
def Oy{b}{t:TE}(h:PE X a t):PE X (.BoolOp b [a] N) t:=λU s O H Q I c=>BoolOp_one (h U s O H Q I c)
def SF(j:PE X a ta)(i:PE X (.BoolOp .And (b::rest) N) tb):PE X (.BoolOp .And (a::b::rest) N) (Nl ta tb):=by
 intro U s O H Q I h;refine BoolOp_and (ah (j U s O H _ I h) λv f k=>?_);obtain⟨x,Z,e,g,d⟩:=k;obtain⟨c,rfl,d⟩:=d;cases g;refine wpAny_truthy_bool ?_;cases c with
 |true=>exact i U f O Z Q e d
 |false=>exact⟨.bl false,Z,e,rfl,d⟩
def PP(e:PE X a ta):PE X (.UnaryOp .Not a N) (MM ta):=by
 intro U s O H Q I h;refine UnaryOp_ (ah (e U s O H _ I h) λv i f=>?_);obtain⟨x,Z,g,d,b⟩:=f;obtain⟨c,rfl,b⟩:=b;cases d;exact not_of (wpAny_truthy_bool ⟨.bl (!c),Z,g,rfl,b⟩)
def F2(t:TT)(ta tb:TE):TE:=λO H Q=>t O H λc Z=>if c=true then ta O Z Q else tb O Z Q
def _y(hc:PT X c tA)(j:PE X a ta)(i:PE X b tb):PE X (.IfExp c a b N) (F2 tA ta tb):=by
 intro U s O H Q I h;refine wpAny_IfExp (ah (hc U s O H _ I h) λd e k=>?_);obtain⟨Z,g,f⟩:=k;cases d with
 |true=>exact j U e O Z Q g f
 |false=>exact i U e O Z Q g f
end
def SqL(K:Frag)(H:Hp)(a:Addr)(J:Ζ):Prop :=
 Rd H a (.lst J) \/
  ∃(o:Obj)(b:xI)(n:Nat),K.lookup a=some o/\o.cls=.type "list"/\o.dict=none/\o.data=.seq b n/\b.size<=sizeLine/\z5 J b.toList
def SqT(K:Frag)(H:Hp)(a:Addr)(J:Ζ):Prop :=
 Rd H a (.tup J) \/
  ∃(o:Obj)(b:xI)(n:Nat),K.lookup a=some o/\o.cls=.type "tuple"/\o.data=.seq b n/\b.size<=sizeLine/\z5 J b.toList
def JA:Value->xD
 |.none=>some .non
 |.bool b=>some (.bl b)
 |.int i _=>some (.int i)
 |.str x _=>some (.str x)
 |.bytes b _=>some (.byt b)
 |.float b _=>some (.flt b)
 |.ref a=>some (.ref a)
 |.type n=>some (.ty n)
 |_=>none
def z4.abs{x:V}(r:z4 x u):JA u=some x:=by
 cases x with
 |non=>cases r;rfl
 |bl _=>cases r;rfl
 |int _=>obtain⟨t,rfl⟩:=r;rfl
 |str _=>obtain⟨t,rfl⟩:=r;rfl
 |byt _=>obtain⟨t,rfl⟩:=r;rfl
 |flt _=>obtain⟨t,rfl⟩:=r;rfl
 |ref _=>cases r;rfl
 |ty _=>cases r;rfl
def z4.inj{x y:V}{u:Value}(r:z4 x u)(q:z4 y u):x=y:=Option.some.inj (r.abs.symm.trans q.abs)
theorem z5.inj:∀{J ys:Ζ}{a:Θ},z5 J a->z5 ys a->J=ys
 |_,_,_,.nil,.nil=>rfl
 |_,_,_,.cons r t,.cons b t'=>by rw[r.inj b,z5.inj t t']
def SqL.of(h:H a=some (.lst J)):SqL K H a J:=.inl (.inl h)
def SqT.of(h:H a=some (.tup J)):SqT K H a J:=.inl (.inl h)
def Inv.list(I:Inv X U O H s)(h:SqL X.K H a J):∃b:Θ,z5 J b/\PlainL s.heap a b.toArray/\J.length<=sizeLine:=by
 rcases h with h|⟨o,b,n,f,g,hd,d,c,r⟩
 .obtain⟨z,b,n,r,e⟩:=h.ok I.hok;exact⟨b,r,⟨_,n,e,rfl,rfl,rfl⟩,z⟩
 .refine⟨b.toList,r,⟨o,n,I.kIn a o f,g,hd,by simpa using d⟩,?_⟩;have e:=r.length;simp only[Array.length_toList]at e;exact aL (WG e) c
def Inv.tuple(I:Inv X U O H s)(h:SqT X.K H a J):∃b:Θ,z5 J b/\IsTup s.heap a b.toArray/\J.length<=sizeLine:=by
 rcases h with h|⟨o,b,n,f,g,d,c,r⟩
 .obtain⟨z,b,r,p⟩:=h.ok I.hok;exact⟨b,r,p,z⟩
 .refine⟨b.toList,r,⟨o,I.kIn a o f,g,n,by simpa using d⟩,?_⟩;have e:=r.length;simp only[Array.length_toList]at e;exact aL (WG e) c
def Inv.list_inj(I:Inv X U O H s)(h:SqL X.K H a J)(h':SqL X.K H a ys):J=ys:=by
 obtain⟨c,r,⟨o,n,e,_,_,d⟩,_⟩:=I.list h;obtain⟨b,i,⟨o',k,f,_,_,g⟩,_⟩:=I.list h';rw[e]at f;cases f;rw[d]at g;injection g with j _;have:c=b:=by simpa using ZH Array.toList j
 subst this;exact r.inj i
def Inv.tuple_inj(I:Inv X U O H s)(h:SqT X.K H a J)(h':SqT X.K H a ys):J=ys:=by
 obtain⟨c,r,⟨o,e,_,n,d⟩,_⟩:=I.tuple h;obtain⟨b,i,⟨o',f,_,k,g⟩,_⟩:=I.tuple h';rw[e]at f;cases f;rw[d]at g;injection g with j _;have:c=b:=by simpa using ZH Array.toList j
 subst this;exact r.inj i
abbrev Cx.wish(X:Cx)(E:Ε):Cx:={ X with xe:=E }
abbrev Cx.nox(X:Cx):Cx:=X.wish λ_ _=>False
def Cx.Ok.wish{X:Cx}(a:X.Ok)(E:Ε):(X.wish E).Ok :=
 ⟨a.mod,a.kind,a.glob,a.blt,a.above,a.inj,a.has,a.cab,a.hd,a.frames,a.stk,a.exf,a.bs,a.bsz,a.noex,a.exfs,a.funs,a.frf⟩
def Cx.Ok.unwish{X:Cx}(a:(X.wish E).Ok):X.Ok :=
 ⟨a.mod,a.kind,a.glob,a.blt,a.above,a.inj,a.has,a.cab,a.hd,a.frames,a.stk,a.exf,a.bs,a.bsz,a.noex,a.exfs,a.funs,a.frf⟩
def Inv.wish(I:Inv X U O H s)(E:Ε):Inv (X.wish E) U O H s:=⟨I.ok.wish E,I.os,I.bare,I.base,I.loc,I.cell,I.free,I.freeC,I.pin,I.hok,I.len⟩
def Inv.unwish(I:Inv (X.wish E) U O H s):Inv X U O H s:=⟨I.ok.unwish,I.os,I.bare,I.base,I.loc,I.cell,I.free,I.freeC,I.pin,I.hok,I.len⟩
def SP.unwish{D:Ends}{f:Flow}{s':Shared}(h:SP (X.wish E) U D f s'):SP X U D f s':=by
 cases f with
 |next=>obtain⟨a,Y,I,q⟩:=h;exact⟨a,Y,I.unwish,q⟩
 |brk=>obtain⟨a,Y,I,q⟩:=h;exact⟨a,Y,I.unwish,q⟩
 |cont=>obtain⟨a,Y,I,q⟩:=h;exact⟨a,Y,I.unwish,q⟩
 |ret u=>obtain⟨v,a,Y,I,r,q⟩:=h;exact⟨v,a,Y,I.unwish,r,q⟩
def PSs.nox{a:xS}{t:TS}(h:PSs X.nox a t):PSs X a t:=λU s O H D I b =>
 wpAny_mono (h U s O H D (I.wish _) b) (λ_ _ q=>q.unwish) λ_ _ z=>False.elim z
section
variable{X:Cx}{st:Stmt}{rest:xS}{t u:TS}{e:Expr}{te:TE}{N:Pos}
def My:TS:=λD O H=>D.nx O H
def h5(t u:TS):TS:=λD O H=>t { D with nx:=u D } O H
def _H:PSs X [] My:=λ_ _ O H _ I h=>wpAny_execs_nil ⟨O,H,I,h⟩
def lY(d:PS X st t)(c:PSs X rest u):PSs X (st::rest) (h5 t u):=by
 intro U s O H D I h;refine wpAny_execs_cons (ah (d U s O H { D with nx:=u D } I h) λf b q=>?_);cases f with
 |next =>
  obtain⟨a,Y,e,q⟩:=q;exact c U b a Y D e q
 |ret v=>exact q
 |brk=>exact q
 |cont=>exact q
def ZD(a:PS X st t):PSs X [st] t:=by
 intro U s O H D I h;refine wpAny_execs_cons (ah (a U s O H D I h) λf b q=>?_);cases f with
 |next=>exact wpAny_execs_nil q
 |ret v=>exact q
 |brk=>exact q
 |cont=>exact q
def Inv.quiet(I:Inv X U O H s):interactive X.env=false:=by simp[interactive,I.ok.kind]
def ML(te:TE):TS:=λD O H=>te O H λ_ Z=>D.nx O Z
def vL(c:PE X e te)(b:swapsWith e none N.line X.env=pure false:=by rfl):PS X (.Expr e N) (ML te):=by
 intro U s O H D I h;exact wpAny_Expr_any (ah (c U s O H _ I h) λv g d=>by obtain⟨x,Z,f,i,a⟩:=d;exact⟨O,Z,f,a⟩) I.quiet b
def vh(te:TE):TS:=λD O H=>te O H D.rt
def Tz(c:PE X e te):PS X (.Return (some e) N) (vh te):=by
 intro U s O H D I h;exact wpAny_Return_some (ah (c U s O H _ I h) λv g d=>by obtain⟨x,Z,f,a,b⟩:=d;exact⟨x,O,Z,f,a,b⟩)
def LP(c:TT)(t u:TS):TS:=λD O H=>c O H λb Z=>if b=true then t D O Z else u D O Z
def MW{a b:xS}{e:TT}(hc:PT X c e)(k:PSs X a t)(j:PSs X b u):PS X (.If c a b N) (LP e t u):=by
 intro U s O H D I h;refine wpAny_If (ah (hc U s O H _ I h) λd f l=>?_);obtain⟨Z,i,g⟩:=l;cases d with
 |true=>exact k U f O Z D i g
 |false=>exact j U f O Z D i g
def SA:TS:=λ_ _ _=>False
def acO:PS X st SA:=λ_ _ _ _ _ _ h=>h.elim
end
abbrev TG:=V->St->Hp->(St->Hp->Prop)->Prop
abbrev gb:=Ζ->St->Hp->(St->Hp->Prop)->Prop
def PG(X:Cx)(b:Expr)(t:TG):Prop :=
 ∀(U:Δ)(s:Shared)(O:St)(H:Hp)(v:V)(u:Value)(Q:St->Hp->Prop),Inv X U O H s->z4 v u->t v O H Q ->
  wpAny (model X.prog X.w) X.A (assign b X.env u) (λ_ s'=>∃a Y,Inv X U a Y s'/\Q a Y) X.xe s
def PGs(X:Cx)(W:xw)(t:gb):Prop :=
 ∀(U:Δ)(s:Shared)(O:St)(H:Hp)(b:Ζ)(c:Θ)(Q:St->Hp->Prop),Inv X U O H s->z5 b c->t b O H Q ->
  wpAny (model X.prog X.w) X.A (assignInOrder ((assignEach W X.env).map (·.2)) c) (λ_ s'=>∃a Y,Inv X U a Y s'/\Q a Y) X.xe s
abbrev oy:=V->V->V->Hp->(Hp->Prop)->Prop
def B3(X:Cx)(t:oy):Prop :=
 ∀(U:Δ)(s:Shared)(O:St)(H:Hp)(o i v:V)(a b u:Value)(Q:Hp->Prop),Inv X U O H s->z4 o a->z4 i b->z4 v u->t o i v H Q ->
  wpAny (model X.prog X.w) X.A (setItem a b u) (λ_ s'=>∃Y,Inv X U O Y s'/\Q Y) X.xe s
abbrev ma:=V->V->Hp->VK->Prop
def qi(X:Cx)(a:Operator)(t:ma):Prop :=
 ∀(U:Δ)(s:Shared)(O:St)(H:Hp)(x y:V)(v u:Value)(Q:VK),Inv X U O H s->z4 x v->z4 y u->t x y H Q ->
  wpAny (model X.prog X.w) X.A (inplaceOp a v u) (EP X U O Q) X.xe s
def Cj(i:Nat):TG:=λv O H Q=>Q (O.set i (some v)) H
def mC(d:X.N.Nodup)(b:X.N[i]?=some x)(a:f0 X.env.scope x)(c:zw X x:=by first|exact .inl rfl|exact .inr rfl|assumption):PG X (.Name x N) (Cj i):=by
 intro U s O H v u Q I r h;exact wpAny_assign_Name (Ag I d b a r (λs' e=>⟨_,H,e,h⟩) c)
def HL:gb:=λa O H Q=>a=[]/\Q O H
def OE(t:TG)(u:gb):gb:=λb O H Q=>∃v r,b=v::r/\t v O H λa Y=>u r a Y Q
def _h:PGs X [] HL:=by
 intro U s O H a b Q I r h;obtain⟨e,h⟩:=h;subst e;cases r;exact assignInOrder_nil ⟨O,H,I,h⟩
def ad5{t:TG}{u:gb}(j:PG X e t)(i:PGs X es u)
 (f:(assignEach (e::es) X.env).map (·.2)=assign e X.env::(assignEach es X.env).map (·.2):=by rfl):PGs X (e::es) (OE t u):=by
 intro U s O H m n Q I r h;obtain⟨v,vr,k,h⟩:=h;subst k;cases r with
 |cons r c =>
  rw[f];refine assignInOrder_cons (ah (j U s O H _ _ _ I r h) λ_ b g=>?_);obtain⟨a,Z,l,d⟩:=g;exact i U b a Z _ _ Q l c d
def KP(K:Frag)(n:Nat)(t:gb):TG:=λv O H Q=>∃a J,v=.ref a/\SqT K H a J/\J.length=n/\t J O H Q
abbrev zi(X:Cx)(a:xw):Prop:=(assignEach a X.env).findIdx? (·.1)=none
def P3{t:gb}{n:Nat}(hc:X.calm)(h:PGs X es t)
 (l:(assignEach es X.env).length=n:=by rfl)(q:zi X es:=by rfl):PG X (.Tuple es k N) (KP X.K n t):=by
 intro U s O H v u Q I r hw;obtain⟨a,J,p,j,m,hw⟩:=hw;subst p;cases r;obtain⟨f,c,i,x⟩:=I.tuple j;refine assign_Tuple_tuple (I.ok.hd hc) i (by simp[l,<- m,c.length]) q λh' g=>?_;have w:Inv X U O H { s with heap:=h' }:=I.kept (t':=s.toks) λb o e=>g b o (aQ (aK e)) e;exact h U _ O H J _ Q w (by simpa using c) hw
def HU(a b:TE)(t:oy):TG:=λv O H Q=>a O H λo Z=>b O Z λi d=>t o i v d λc=>Q O c
def EU{o i:Expr}{d e:TE}{t:oy}(n:PE X o d)(p:PE X i e)(m:B3 X t)
 (q:∀v,assign (.Subscript o i N) X.env v=(do
   let a <- holding [v] (eval o X.env)
   let b <- holding [v,a] (eval i X.env)
   standAt N
   holding [v,a,b] (setItem a b v)
   release [v,a,b] []):=by intro _;rfl):PG X (.Subscript o i N) (HU d e t):=by
 intro U s O H v u Q I r h;rw[q];refine ZU (wpAny_holding (ah (n U s O H _ I h) λa g c=>?_));obtain⟨x,Z,A,k,l⟩:=c;refine ZU (wpAny_holding (ah (p U g O Z _ A l) λb f c=>?_));obtain⟨y,C,z,j,q2⟩:=c;refine ZU (wpAny_standAt (ZU (wpAny_holding (ah (m U f O C x y v a b u _ z k j r q2) λ_ D c=>?_))));obtain⟨B,w,q3⟩:=c;exact wpAny_release ⟨O,B,w,q3⟩
def lq(te:TE)(g:TG):TS:=λD O H=>te O H λx Z=>g x O Z D.nx
def X5{g:TG}(j:PE X e te)(i:PG X tg g)(f:swapsWithSole [tg] e N.line X.env=pure false:=by rfl)(d:swappedStores [tg] e X.env=pure none:=by rfl)
 (l:(assignEach [tg] X.env).map (·.2)=[assign tg X.env]:=by rfl):PS X (.Assign [tg] e N) (lq te g):=by
 intro U s O H D I h;refine wpAny_Assign_stores (ah (j U s O H _ I h) λv a k=>?_) f d;obtain⟨x,Z,m,b,c⟩:=k;rw[l];exact ah (i U a O Z x v _ m b c) λ_ n q=>q
def YC(l:X.N.Nodup)(f:X.N[i]?=some x)(c:f0 X.env.scope x)(j:PE X e te)(d:swapsWith e (some (.Name x bo)) N.line X.env=pure false:=by rfl)(g:zw X x:=by first|exact .inl rfl|exact .inr rfl|assumption) :
  PS X (.Assign [.Name x bo] e N) (lq te (Cj i)):=by
 intro U s O H D I h;refine wpAny_Assign_Name (ah (j U s O H _ I h) λv p k=>?_) d;obtain⟨y,Z,n,a,b⟩:=k;exact Ag n l f c a (λo m=>⟨_,Z,m,b⟩) g
def JO(i j:Nat)(b:TA):TS:=λD O H=>b O H λa Z=>∃v w,a=[v,w]/\D.nx ((O.set i (some v)).set j (some w)) Z
variable{a:Expr}{ta:TA}{op:Operator}{body:xS}{p:Pos}{fp:Ψ}
def Pc{j:Nat}{y:Str}{b:Expr}{n m r:Pos}{t u d}(hc:X.calm)(E:X.N.Nodup)(S:X.N[i]?=some x)(R:X.N[j]?=some y)(P:i≠j)
 (B:X.env.scope.names.lookup x=some .local)(z:X.env.scope.names.lookup y=some .local)(T:PA X [a,b] ta)
 (hw:swappedStores [.Tuple [.Name x n,.Name y m] t r] (.Tuple [a,b] u d) X.env=pure (some [x,y]))
 (Q:swapsWithSole [.Tuple [.Name x n,.Name y m] t r] (.Tuple [a,b] u d) N.line X.env=pure false:=by rfl) :
  PS X (.Assign [.Tuple [.Name x n,.Name y m] t r] (.Tuple [a,b] u d) N) (JO i j ta):=by
 intro U s O H D I h;rw[exec_Assign_arm];refine ZU (wpAny_standAt ?_);rw[Q];refine ZU (ZT ?_);rw[ZZ wf];refine ZU (Tuple_ (ah (T _ U s O H _ I h) λG k V=>?_));obtain⟨vs,Z,I1,K,l⟩:=V;obtain⟨v,w,e1,l⟩:=l;subst e1;obtain⟨g,f,rfl,J,W⟩ : ∃g f,G=[g,f]/\z4 v g/\z4 w f:=by
  cases K with
  |cons p q =>
   cases q with
   |cons M L =>
    cases L;exact⟨_,_,rfl,p,M⟩
 refine wpAny_newObj_type ?_ (by show 2<=sizeLine;decide);have I2:Inv X U O Z { k with heap:=k.heap.push { cls:=.type "tuple",data:=.seq [g,f].toArray } }:=I1.kept (t':=k.toks) λb o e=>aH _ e;rw[hw];refine ZU (ZT ?_);show wpAny (model X.prog X.w) X.A (do rule "assign.swapped-stores"; let c <- unpackItems (.ref k.zs) 2 none;assignInOrder [λv=>bindName X.env y v,λv=>bindName X.env x v] c.reverse;pure Flow.next) _ _ _;refine ZU (wpAny_rule (ZU (unpackItems_tuple (items:=#[g,f]) (I.ok.hd hc) (IsTup.new k.heap _) λh' Y=>?_)));have I3:=I2.kept (h':=h') (t':=k.toks) λb o e=>Y b o (aQ (aK e)) e;show wpAny _ _ (assignInOrder [λv=>bindName X.env y v,λv=>bindName X.env x v] [f,g] >>= λ_=>pure Flow.next) _ _ _;refine ZU (assignInOrder_cons (wpAny_bindName (Ag I3 E R (.inl z) W (λs2 I4=>?_) (.inr z))));refine assignInOrder_cons (wpAny_bindName (Ag I4 E S (.inl B) J (λs3 F=>assignInOrder_nil (ZT ?_)) (.inr B)));rw[List.set_comm _ _ (Ne.symm P)]at F;exact⟨_,Z,F,l⟩
def KG(i:Nat)(te:TE)(a:ma):TS:=λD O H=>∃x,O[i]?=some (some x)/\te O H λy Z=>a x y Z λz b=>D.nx (O.set i (some z)) b
def N4{n:ma}(M:X.N.Nodup)(o:X.N[i]?=some x)(g:f0 X.env.scope x)(L:PE X e te)(E:qi X op n)(K:zw X x:=by first|exact .inl rfl|exact .inr rfl|assumption) :
  PS X (.AugAssign (.Name x bo) op e N) (KG i te n):=by
 intro U s O H D I h;obtain⟨v,P,h⟩:=h;obtain⟨m,F,J⟩:=I.loc;have f:kn X.env.scope x:=by rcases g with k|k;exact .inl k;exact .inr (.inl k)
 obtain⟨u,r,l⟩:=J i x v o P f;refine wpAny_AugAssign_Name ?_;have p:wpAny (model X.prog X.w) X.A (eval e X.env) (λw d=>wpAny (model X.prog X.w) X.A (inplaceOp op u w) (λr b=>wpAny (model X.prog X.w) X.A (storeName X.env x r) (λ_=>SP X U D .next) X.xe b) X.xe d) X.xe s:=by
  refine ah (L U s O H _ I h) λw q j=>?_;obtain⟨y,Z,T,B,C⟩:=j;refine ah (E U q O Z v y u w _ T r B C) λz s2 j=>?_;obtain⟨W,V,S,t,q2⟩:=j;exact Ag S M o g t (λY R=>⟨_,V,R,q2⟩) K
 rcases l with⟨a,G⟩|⟨a,c,hc,Q⟩
 .exact wpAny_loadName_local I.ok.kind a F G p
 .rcases a with a|a
  .exact wpAny_loadName_cell I.ok.kind a hc Q p
  .rcases g with k|k
   .have:X.env.scope.names.lookup x=some .free:=a;rw[k]at this;cases this
   .have:X.env.scope.names.lookup x=some .free:=a;rw[k]at this;cases this
def sj(f:Int->Int->Int):ma:=λx y H Q=>∃i j,x=.int i/\y=.int j/\Q (.int (f i j)) H
def NG:qi X .Add (sj λi j=>i+j):=by
 intro U s O H x y v u Q I b a h;obtain⟨i,j,d,c,q⟩:=h;subst d;subst c;obtain⟨t,rfl⟩:=b;obtain⟨t',rfl⟩:=a;exact iadd_int ⟨.int _,H,I.tok _,⟨_,rfl⟩,q⟩
def PF(c:TT)(e:TS):TS:=λD O H=>∃W:Nat->St->Hp->Prop,(∃m,W m O H)/\∀m O H,W m O H ->
 c O H λb Z=>if b=true then ∃N:St->Hp->Prop,(∀a Y,N a Y->∃d,d<m/\W d a Y)/\e { D with nx:=N,ct:=N,bk:=D.nx } O Z else D.nx O Z
def acn{p:TT}{q:TS}(r:PassesOwn (model X.prog X.w) X.A X.env X.xe)(hc:PT X c p)(F:PSs X body q):PS X (.While c body [] N) (PF p q):=by
 intro U s O H D I h;obtain⟨W,⟨E,z⟩,J⟩:=h;refine wpAny_While (codeAny_whileLoop (λn s'=>∃g Y,Inv X U g Y s'/\W n g Y) ?_ E ⟨O,H,I,z⟩);rintro n C ⟨e,Z,K,y⟩;refine wpAny_passesOwn r (ah (hc U C e Z _ K (J n e Z y)) λb B G=>?_);obtain⟨x,u,q2⟩:=G;cases b with
 |true =>
  obtain⟨a,t,q2⟩:=q2;rw[ZY rfl];refine wpAny_passesOwn r (ah (F U B e x _ u q2) λf L q3=>?_);cases f with
  |next =>
   obtain⟨d,i,o,k⟩:=q3;obtain⟨l,m,j⟩:=t d i k;exact⟨l,m,d,i,o,j⟩
  |cont =>
   obtain⟨d,i,o,k⟩:=q3;obtain⟨l,m,j⟩:=t d i k;exact⟨l,m,d,i,o,j⟩
  |brk=>exact q3
  |ret v=>exact q3
 |false =>
  rw[ZZ bw];exact wpAny_execs_nil ⟨e,x,u,q2⟩
structure It where
 go:Nat->Hp->Prop
 yld:Nat->Hp->V->Hp->Prop
 stop:Nat->Hp->Prop
def Ji(X:Cx)(U:Δ)(H:Hp)(b:Addr):Prop :=
 H b=none/\b≠X.env.locals/\b∉X.fs/\(b∈X.ex\/X.s₀.zs<=b)/\(∀x c,X.env.cells.lookup x=some c->c≠b)/\∀p∈X.pn++U,p.1≠b
def Inv.fpOk{X:Cx}(I:Inv X U O H s)(a:s.zs<=b)(f:Y b=none):Ji X U Y b:=by
 refine⟨f,UK (aR I.lt a),I.nofs a,.inr (aL I.sz a),λx c e z=>?_,λp d z=>?_⟩
 .obtain⟨v,q⟩:=I.cell x c e;exact absurd (aR q.lt (by rwa[z])) (Wp _)
 .exact absurd (aR (aK (I.pin p d).1) (by rwa[z])) (Wp _)
structure Turn(P:Program)(w:World)(K:Frag)(tg:Expr)(J:It)(fp:Ψ)(it:Addr)(tn:Nat->Heap->Prop):Prop where
 mem:it∈fp
 obj:∀i h,tn i h->∀b∈fp,∃o,h.get? b=some o/\∀v,o.data≠.cell v
 keep:∀i h h',tn i h->(∀b∈fp,∀o,h.get? b=some o->h'.get? b=some o)->tn i h'
 item:∀(X:Cx),X.prog=P->X.w=w->X.K=K->X.calm=true->∀(i:Nat)(U:Δ)(s:Shared)(O:St)(H:Hp)(E:Ε),Inv X U O H s->(∀b∈fp,Ji X U H b)->tn i s.heap->J.go i H ->
  wpAny (model P w) X.A (pyNext (.ref it)) (λr s1=>∃u,r=some u /\
   wpAny (model P w) X.A (letOwnedTupleGo tg (.ref it) u) (λ_ s2=>∃x Y,Inv X U O Y s2/\z4 x u/\J.yld i H x Y/\tn (i+1) s2.heap/\∀b∈fp,Y b=none) E s1) E s
 done:∀(X:Cx),X.prog=P->X.w=w->X.K=K->X.calm=true->∀(i:Nat)(U:Δ)(s:Shared)(O:St)(H:Hp)(E:Ε),Inv X U O H s->(∀b∈fp,Ji X U H b)->tn i s.heap->J.stop i H ->
  wpAny (model P w) X.A (pyNext (.ref it)) (λr s1=>r=none/\Inv X U O H s1) E s
 self:∀(A:Around)(i:Nat)(s:Shared)(Q:Ε)(E:Ε),tn i s.heap->Q (.ref it) s->wpAny (model P w) A (pyIter (.ref it)) Q E s
abbrev TI:=St->Hp->(It->Hp->Prop)->Prop
def FC(X:Cx)(U:Δ)(O:St)(tg:Expr)(R:It->Hp->Prop)(e:Value)(c:Shared):Prop :=
 ∃(d:Addr)(fp:Ψ)(a:Nat->Heap->Prop)(J:It)(Y:Hp),e=.ref d/\Inv X U O Y c/\Turn X.prog X.w X.K tg J fp d a/\a 0 c.heap/\(∀b∈fp,Ji X U Y b)/\R J Y
def PI(X:Cx)(tg iter:Expr)(a:TI):Prop :=
 ∀(U:Δ)(s:Shared)(O:St)(H:Hp)(R:It->Hp->Prop),Inv X U O H s->a O H R ->
  wpAny (model X.prog X.w) X.A (eval iter X.env) (λv b=>wpAny (model X.prog X.w) X.A (pyIter v) (FC X U O tg R) X.xe b) X.xe s
def VG{c:Addr}{n:String}{b:xI}(d:s.heap.get? c=some o)(hc:o.cls=.type n)(hd:o.data=.fields b)
   (e : ["enumerate","zip","dict_itemiterator","dict_reverseitemiterator","odict_iterator","itertools.zip_longest","itertools.pairwise"].contains n=false)(a:Q () s):wpAny M A (letOwnedTupleGo tg (.ref c) u) Q E s:=by
  unfold letOwnedTupleGo;cases tg<;>first
    |exact ZT a
    |(cases u<;>first
        |exact ZT a
        | (refine ZU (wpAny_load d ?_)
           rw[hc,hd];show wpAny M A (if(["enumerate","zip","dict_itemiterator","dict_reverseitemiterator","odict_iterator","itertools.zip_longest","itertools.pairwise"].contains n&&b[0]?==some (rawInt _))=true then _ else _) Q E s;rw[ZZ (by intro h;rw[e,Bool.false_and]at h;cases h)];exact ZT a))
def FH(K:Frag)(a:Addr):It :=
 ⟨λi H=>∃J x,SqL K H a J/\J[i]?=some x,λi H x Y=>Y=H/\∀J,SqL K H a J->J[i]?=some x,λi H=>∃J,SqL K H a J/\J.length<=i⟩
def FG(K:Frag)(a:Addr):It :=
 ⟨λi H=>∃J x,SqT K H a J/\J[i]?=some x,λi H x Y=>Y=H/\∀J,SqT K H a J->J[i]?=some x,λi H=>∃J,SqT K H a J/\J.length<=i⟩
def kA(lo:Int)(n:Nat):It:=⟨λi _=>i<n,λi H x Y=>Y=H/\x=.int (lo+i),λi _=>n<=i⟩
def abr(a g:Addr):Turn P w K tg (FH K a) [g] g (λi h=>h.IsListIter g a i) where
 mem:=by simp
 obj:=λi h f b j=>by
  have e:b=g:=by simpa using j
  subst e;obtain⟨o,e,c,d⟩:=f;exact⟨o,e,λv z=>by rw[d]at z;cases z⟩
 keep:=λi h h' f k=>f.at λo e=>k g wr o e
 item:=by
  intro X y hw A hc i U s O H E I n f t;subst y hw A;obtain⟨J,x,m,L⟩:=t;obtain⟨r,q,p,R⟩:=I.list m;obtain⟨u,T,Q⟩:=q.get L;obtain⟨G,F,V,D,C,B⟩:=n g wr;refine wpAny_pyNext_list_item f p.isList (x:=u) (by simpa using T) λh' M N=>?_;have Y:Inv X U O H { s with heap:=h' }:=I.turned (t':=s.toks) (λb o j e=>(N.2 b j).trans e) G F D C B;obtain⟨o,e,c,d⟩:=id M;exact⟨u,rfl,VG (s:={ s with heap:=h' }) e c d wf ⟨x,H,Y,Q,⟨rfl,λys S=>by rwa[I.list_inj S m]⟩,M,λb j=>(n b j).1⟩⟩
 done:=by
  intro X y hw A hc i U s O H E I n f t;subst y hw A;obtain⟨J,m,L⟩:=t;obtain⟨r,q,p,R⟩:=I.list m;obtain⟨G,F,V,D,C,B⟩:=n g wr;have Z:=q.length;exact wpAny_pyNext_list_end (I.ok.hd hc) f p.isList (by simp;lia) λh' W=>⟨rfl,I.turned (t':=s.toks) (λb o j e=>W b o j e) G F D C B⟩
 self:=λ_ _ _ _ _ f h=>wpAny_pyIter_listiter f h
def YT(a j:Addr):Turn P w K tg (FG K a) [j] j (λi h=>h.IsTupleIter j a i) where
 mem:=by simp
 obj:=λi h f b l=>by
  have e:b=j:=by simpa using l
  subst e;obtain⟨o,e,c,d⟩:=f;exact⟨o,e,λv z=>by rw[d]at z;cases z⟩
 keep:=λi h h' f k=>f.at λo e=>k j wr o e
 item:=by
  intro X y hw A hc i U s O H E I q f t;subst y hw A;obtain⟨J,x,n,L⟩:=t;obtain⟨g,r,p,R⟩:=I.tuple n;obtain⟨u,T,Q⟩:=r.get L;obtain⟨G,F,V,D,C,B⟩:=q j wr;refine wpAny_pyNext_tuple_item f (show s.heap.IsTuple a g.toArray from p) (x:=u) (by simpa using T) λh' M N=>?_;have Y:Inv X U O H { s with heap:=h' }:=I.turned (t':=s.toks) (λb o l e=>(N.2 b l).trans e) G F D C B;obtain⟨o,e,c,d⟩:=id M;exact⟨u,rfl,VG (s:={ s with heap:=h' }) e c d wf ⟨x,H,Y,Q,⟨rfl,λys S=>by rwa[I.tuple_inj S n]⟩,M,λb l=>(q b l).1⟩⟩
 done:=by
  intro X y hw A hc i U s O H E I q f t;subst y hw A;obtain⟨J,n,L⟩:=t;obtain⟨g,r,p,R⟩:=I.tuple n;obtain⟨G,F,V,D,C,B⟩:=q j wr;have Z:=r.length;exact wpAny_pyNext_tuple_end (I.ok.hd hc) f (show s.heap.IsTuple a g.toArray from p) (by simp;lia) λh' W=>⟨rfl,I.turned (t':=s.toks) (λb o l e=>W b o l e) G F D C B⟩
 self:=λ_ _ _ _ _ f h=>wpAny_pyIter_tupleiter f h
def YD(c:Addr)(lo:Int)(n:Nat):Turn P w K tg (kA lo n) [c] c (λi h=>IsRangeIter h c (lo+(i:Nat)*1) ((n:Int)-(i:Nat)) 1) where
 mem:=by simp
 obj:=λi h a b d=>by
  have e:b=c:=by simpa using d
  subst e;exact⟨_,a,λv z=>by
   have B:Data.fields _=Data.cell v:=z;cases B⟩
 keep:=λi h h' a k=>k c wr _ a
 item:=by
  intro X l hw m hc i U s O H E I g a j;subst l hw m;obtain⟨x,u,F,r,q,p⟩:=g c wr;have W:=Walks.range (prog:=X.prog) (w:=X.w) (I.ok.hd hc) c lo 1 n;refine W.item i s _ _ j a λv h' y D A C=>?_;obtain⟨t,rfl⟩:=D;have J:Inv X U O H { s with heap:=h',toks:=y }:=I.turned (λb o d e=>C b o (by simpa using d) e) x u r q p;refine⟨_,rfl,VG (s:={ s with heap:=h',toks:=y }) (n:="range_iterator") A rfl rfl wf ⟨.int (lo+i),H,J,⟨t,?_⟩,⟨rfl,rfl⟩,A,λb d=>(g b d).1⟩⟩;rw[T1]
 done:=by
  intro X l hw m hc i U s O H E I g a j;subst l hw m;obtain⟨x,u,F,r,q,p⟩:=g c wr;exact wpAny_pyNext_range_end (I.ok.hd hc) a (by have:n<=i:=j;lia) λh' G=>⟨rfl,I.turned (t':=s.toks) (λb o d e=>G b o d e) x u r q p⟩
 self:=λ_ _ _ _ _ a h=>wpAny_pyIter_rangeiter a h
def Nw(K:Frag)(b:TE):TI:=λO H R=>b O H λx Z=>∃a,x=.ref a/\(∃J,SqL K Z a J)/\R (FH K a) Z
def LG(K:Frag)(b:TE):TI:=λO H R=>b O H λx Z=>∃a,x=.ref a/\(∃J,SqT K Z a J)/\R (FG K a) Z
def Zl{l:Expr}{f:TE}(m:PE X l f):PI X tg l (Nw X.K f):=by
 intro U s O H R I h;refine ah (m U s O H _ I h) λv c r=>?_;obtain⟨x,Z,d,g,i⟩:=r;obtain⟨a,e,⟨J,k⟩,q⟩:=i;subst e;cases g;obtain⟨j,t,p,u⟩:=d.list k;refine wpAny_pyIter_list p.isList ?_;refine⟨c.zs,[c.zs],_,_,Z,rfl,d.kept (t':=c.toks) λb o e=>aH _ e,abr a _,⟨_,aW _ rfl,rfl,rfl⟩,λb n=>?_,q⟩;have e:b=c.zs:=by simpa using n
 subst e;exact d.fpOk (aG _) (d.hok.fresh (aG _))
def OH{l:Expr}{g:TE}(m:PE X l g):PI X tg l (LG X.K g):=by
 intro U s O H R I h;refine ah (m U s O H _ I h) λv c r=>?_;obtain⟨x,Z,d,i,j⟩:=r;obtain⟨a,e,⟨J,k⟩,q⟩:=j;subst e;cases i;obtain⟨f,t,p,u⟩:=d.tuple k;refine wpAny_pyIter_tuple (show c.heap.IsTuple a f.toArray from p) ?_;refine⟨c.zs,[c.zs],_,_,Z,rfl,d.kept (t':=c.toks) λb o e=>aH _ e,YT a _,⟨_,aW _ rfl,rfl,rfl⟩,λb n=>?_,q⟩;have e:b=c.zs:=by simpa using n
 subst e;exact d.fpOk (aG _) (d.hok.fresh (aG _))
def Vo{R:It->Hp->Prop}{lo a:Int}{t u v:Tok}{d:Nat}(I:Inv X U O H s)(k : -(2^62)<=lo)(j:lo<2^62)(i : -(2^62)<=a)(h:a<2^62)
 (q:R (kA lo (a-lo).toNat) H):wpAny (model X.prog X.w) X.A (pyIter (.ref s.zs)) (FC X U O tg R) E { s with heap:=s.heap.push { cls:=.type "range",data:=.fields #[.int lo t,.int a u,.int 1 v] },toks:=d }:=by
 refine wpAny_pyIter_range (IsRange.new ..) (small_one k j i h) ?_;have f:Inv X U O H { s with heap:=s.heap.push { cls:=.type "range",data:=.fields #[.int lo t,.int a u,.int 1 v] },toks:=d }:=I.kept λb o e=>aH _ e;refine⟨(s.heap.push { cls:=.type "range",data:=.fields #[.int lo t,.int a u,.int 1 v] }).objs.size,[(s.heap.push { cls:=.type "range",data:=.fields #[.int lo t,.int a u,.int 1 v] }).objs.size],_,_,H,rfl,
  f.kept (t':=d) λb o e=>aH _ e,YD _ lo (a-lo).toNat,?_,λb g=>?_,q⟩
 .have m:lo+((0:Nat):Int)*1=lo:=by simp
  have l:(((a-lo).toNat:Nat):Int)-((0:Nat):Int)=Builtin.Range.rangeSize lo a 1:=by rw[rangeSize_one];split<;>lia
  show IsRangeIter _ _ (lo+((0:Nat):Int)*1) ((((a-lo).toNat:Nat):Int)-((0:Nat):Int)) 1;rw[m,l];exact aW _ rfl
 .have e:b=(s.heap.push { cls:=.type "range",data:=.fields #[.int lo t,.int a u,.int 1 v] }).objs.size:=by simpa using g
  subst e;exact f.fpOk (aG _) (f.hok.fresh (aG _))
def MT(ta:TA):TI:=λO H R=>ta O H λa Z=>∃j:Int,a=[.int j]/\-(2^62)<=j/\j<2^62/\R (kA 0 j.toNat) Z
def MB(ta:TA):TI:=λO H R=>ta O H λa Z=>∃i j:Int,a=[.int i,.int j]/\(-(2^62)<=i/\i<2^62/\-(2^62)<=j/\j<2^62)/\R (kA i (j-i).toNat) Z
def abk(i:Gl X "range")(g:X.mg "range"=none)(k:PA X [a] ta)(f:starEach [a] X.env=[(false,eval a X.env)]:=by rfl):PI X tg (.Call (.Name "range" p) [a] [] N) (MT ta):=by
 intro U s O H R I h;refine Call_ (DR I i g boot_range (PyProof.Rows.callWith_type1 (ah (k N U s O H _ I h) λo u l=>?_) f rfl));obtain⟨n,Z,m,d,b⟩:=l;obtain⟨j,e,b,q2,q⟩:=b;subst e;cases d with
 |cons r c =>
  cases c;obtain⟨t,rfl⟩:=r;exact call_range_1 (Vo m (XY wf) (QY wf) b q2 (by simpa using q))
def aaD{b:Expr}(o:Gl X "range")(n:X.mg "range"=none)(u:PA X [a,b] ta)(m:starEach [a,b] X.env=[(false,eval a X.env),(false,eval b X.env)]:=by rfl)(f:starEach [b] X.env=[(false,eval b X.env)]:=by rfl) :
  PI X tg (.Call (.Name "range" p) [a,b] [] N) (MB ta):=by
 intro U s O H R I h;refine Call_ (DR I o n boot_range (PyProof.Rows.callWith_type1 (ah (u N U s O H _ I h) λy z v=>?_) (by rw[m,f]) (by rw[f];rfl)));obtain⟨x,Z,w,g,d⟩:=v;obtain⟨i,j,e,⟨d,q2,q3,l⟩,q⟩:=d;subst e;cases g with
 |cons r c =>
  cases c with
  |cons k c =>
   cases c;obtain⟨t,rfl⟩:=r;obtain⟨t',rfl⟩:=k;exact call_range_2 (Vo w d q2 q3 l q)
def IQ(d:TI)(g:TG)(e:TS):TS:=λD O H=>d O H λJ Z=>∃W:Nat->Nat->St->Hp->Prop,(∃m,W 0 m O Z)/\∀i m O H,W i m O H ->
 (J.stop i H/\D.nx O H)\/(J.go i H/\∃N:St->Hp->Prop,(∀a Y,N a Y->∃c,c<m/\W (i+1) c a Y)/\∀x Y,J.yld i H x Y->g x O Y λb f=>e { D with nx:=N,ct:=N,bk:=D.nx } b f)
def Kv(fp:Ψ)(h:Heap):Δ:=fp.filterMap λb=>(h.get? b).map λo=>(b,o)
def sE(a:b∈fp)(e:h.get? b=some o):(b,o)∈Kv fp h:=List.mem_filterMap.mpr ⟨b,a,by rw[e];rfl⟩
def aa3{p:Addr×Obj}(a:p∈Kv fp h):p.1∈fp/\h.get? p.1=some p.2:=by
 obtain⟨b,c,e⟩:=List.mem_filterMap.mp a;cases q:h.get? b with
 |none=>rw[q]at e;cases e
 |some o =>
  rw[q]at e;have d:(b,o)=p:=Option.some.inj e;subst d;exact⟨c,q⟩
def Inv.pinned(I:Inv X U O H s)(h:∀b∈fp,Ji X U H b)(g:∀b∈fp,∃o,s.heap.get? b=some o/\∀v,o.data≠.cell v):Inv X (U++Kv fp s.heap) O H s :=
 I.pins_of λp f=>(Y1.mp f).elim (λz=>I.pin p (aP _ z)) λz=>by
  obtain⟨a,e⟩:=aa3 z;obtain⟨k,j,i,_⟩:=h p.1 a;obtain⟨o,c,d⟩:=g p.1 a;rw[e]at c;cases c;exact⟨e,k,j,i,d⟩
def Inv.unpinned{a:Δ}(I:Inv X (U++a) O H s):Inv X U O H s:=I.pins_of λp b=>I.pin p (aP _ (U2 _ b))
abbrev zg(X:Cx)(a:Expr):Prop:=∀z,foldedSetIterable a X.env z=pure z
def OG{iter:Expr}{S:TI}{g:TG}{Z:TS}(C:PassesOwn (model X.prog X.w) X.A X.env X.xe)(hc:X.calm)(hi:PI X tg iter S)(hg:PG X tg g)(l:PSs X body Z)
 (hs:zg X iter:=by intro _;rfl):PS X (.For tg iter body [] N) (IQ S g Z):=by
 intro U s O H D I h;refine wpAny_For (ah (hi U s O H _ I h) λv s1 h1=>ah h1 λnL s2 h2=>?_) hs;obtain⟨it,fp,V,J,H2,e,I2,T,g6,f2,W,⟨m0,w0⟩,fN⟩:=h2;subst e

 have M:∀{Y:Hp},(∀b∈fp,Y b=none)->∀b∈fp,Ji X U Y b:=λhn b l=>⟨hn b l,(f2 b l).2⟩;refine codeAny_forLoop_any (λn s'=>∃i k Y,Inv X U k Y s'/\V i s'.heap/\(∀b∈fp,Y b=none)/\W i n k Y) ?_ m0 ⟨0,O,H2,I2,g6,λb l=>(f2 b l).1,w0⟩;rintro n s3 ⟨i,j,F,I3,i7,E,w3⟩;rcases fN i n j F w3 with⟨z,qn⟩|⟨go,a,hN,step⟩
 .refine wpAny_passesOwn C (ah (T.done X rfl rfl rfl hc i U s3 j F X.xe I3 (M E) i7 z) λr s4 y=>?_);obtain⟨P,I4⟩:=y;subst P;exact wpAny_execs_nil ⟨j,F,I4,qn⟩
 .refine wpAny_passesOwn C (ah (T.item X rfl rfl rfl hc i U s3 j F X.xe I3 (M E) i7 go) λr s4 y=>?_);obtain⟨u,P,h4⟩:=y;subst P;refine wpAny_passesOwn C (ah h4 λ_ s5 y=>?_);obtain⟨x,H5,I5,r5,y5,L,Q⟩:=y;have R:=I5.pinned (M Q) (T.obj _ _ L);refine wpAny_passesOwn C (ah (hg _ s5 j H5 x u _ R r5 (step x H5 y5)) λ_ s6 y=>?_);obtain⟨G,H6,I6,q6⟩:=y;refine wpAny_passesOwn C (ah (l _ s6 G H6 _ I6 q6) λf K t=>?_);have again:∀{c:St}{q:Hp},Inv X (U++Kv fp s5.heap) c q K->a c q->∃m,m<n/\∃i k Y,Inv X U k Y K/\V i K.heap/\(∀b∈fp,Y b=none)/\W i m k Y:=λ{c q}p B=>by
   obtain⟨m',hm,w7⟩:=hN c q B;refine⟨m',hm,i+1,c,q,p.unpinned,T.keep _ _ _ L λb l o e=>(p.pin (b,o) (aP _ (aP _ (sE l e)))).1,λb l=>?_,w7⟩;obtain⟨o,e,d⟩:=T.obj _ _ L b l;exact(p.pin (b,o) (aP _ (aP _ (sE l e)))).2.1
  cases f with
  |next=>obtain⟨c,q,p,B⟩:=t;exact again p B
  |cont=>obtain⟨c,q,p,B⟩:=t;exact again p B
  |brk=>obtain⟨c,q,p,t⟩:=t;exact⟨c,q,p.unpinned,t⟩
  |ret v=>obtain⟨x7,c,q,p,r7,t⟩:=t;exact⟨x7,c,q,p.unpinned,r7,t⟩
abbrev R2:=V->V->Hp->VK->Prop
def OpR(X:Cx)(f:Value->Value->Sem Value)(r:R2):Prop :=
 ∀(U:Δ)(s:Shared)(O:St)(H:Hp)(x y:V)(v u:Value)(Q:VK),Inv X U O H s->z4 x v->z4 y u->r x y H Q ->
  wpAny (model X.prog X.w) X.A (f v u) (EP X U O Q) X.xe s
def p'(X:Cx)(f:Value->Sem Value)(r:V->Hp->VK->Prop):Prop :=
 ∀(U:Δ)(s:Shared)(O:St)(H:Hp)(x:V)(v:Value)(Q:VK),Inv X U O H s->z4 x v->r x H Q ->
  wpAny (model X.prog X.w) X.A (f v) (EP X U O Q) X.xe s
def kW(X:Cx)(f:Value)(r:Ζ->Hp->VK->Prop):Prop :=
 ∀(U:Δ)(s:Shared)(O:St)(H:Hp)(J:Ζ)(a:Θ)(Q:VK),Inv X U O H s->z5 J a->r J H Q ->
  wpAny (model X.prog X.w) X.A (call f a) (EP X U O Q) X.xe s
def K1(X:Cx)(r:V->Hp->(Bool->Hp->Prop)->Prop):Prop :=
 ∀(U:Δ)(s:Shared)(O:St)(H:Hp)(x:V)(v:Value)(Q:Bool->Hp->Prop),Inv X U O H s->z4 x v->r x H Q ->
  wpAny (model X.prog X.w) X.A (truthy v) (TP X U O Q) X.xe s
def io(r:R2)(ta a:TE):TE:=λO H Q=>ta O H λx Z=>a O Z λy b=>r x y b Q
def FU(r:V->Hp->VK->Prop)(ta:TE):TE:=λO H Q=>ta O H λx Z=>r x Z Q
def rI(C:Int->Int->Prop)(g:Int->Int->V):R2:=λx y H Q=>∃i j,x=.int i/\y=.int j/\C i j/\Q (g i j) H
def ge(g:Int->Int->V):R2:=λx y H Q=>∃i j,x=.int i/\y=.int j/\Q (g i j) H
def rU(g:Int->V):V->Hp->VK->Prop:=λx H Q=>∃i,x=.int i/\Q (g i) H
variable{b:Expr}{ta tb:TE}{f:Value->Value->Sem Value}{r:R2}{v:Value}{g:Int->Int->Int}
def ov(p:PE X a ta)(o:PE X b tb){R:V->V->Hp->Prop}(I:Inv X U O H s)
 (h:ta O H λx Z=>tb O Z λy c=>R x y c){Q:Ε}
 (n:∀v u g x y c,Inv X U O c g->z4 x v->z4 y u->R x y c->wpAny (model X.prog X.w) X.A (f v u) Q X.xe g) :
  wpAny (model X.prog X.w) X.A (eval a X.env) (λv e=>wpAny (model X.prog X.w) X.A (eval b X.env) (λu d=>wpAny (model X.prog X.w) X.A (f v u) Q X.xe d) X.xe e) X.xe s:=by
 refine ah (p U s O H _ I h) λv j i=>?_;obtain⟨x,Z,r,l,m⟩:=i;refine ah (o U j O Z _ r m) λu g i=>?_;obtain⟨y,c,q,k,q2⟩:=i;exact n v u g x y c q l k q2
def NF(f:OpR X (binaryOp op) r)(i:PE X a ta)(g:PE X b tb):PE X (.BinOp a op b N) (io r ta tb):=by
 intro U s O H Q I h;exact wpAny_BinOp (ov i g I h λv u c x y k j e d q=>f U c O k x y v u Q j e d q)
def M3{op:UnaryOp}{r:V->Hp->VK->Prop}(e:p' X (unaryOp op) r)(f:PE X a ta):PE X (.UnaryOp op a N) (FU r ta):=by
 intro U s O H Q I h;exact UnaryOp_ (ah (f U s O H _ I h) λv b g=>by obtain⟨x,Z,i,c,d⟩:=g;exact e U b O Z x v Q i c d)
def Fx(c:OpR X (inplaceOp op) r){x y:V}{Q:VK}(I:Inv X U O H s)
 (b:z4 x v)(a:z4 y u)(q:r x y H Q):wpAny (model X.prog X.w) X.A (inplaceOp op v u) (EP X U O Q) X.xe s:=c U s O H x y v u Q I b a q
def iM{C:Int->Int->Prop}
 (rule:∀(i j:Int)(t u:Tok)(s:Shared)(Q:Ε)(E:Ε),C i j->Q (.int (g i j) s.toks) { s with toks:=s.toks+1 }->wpAny (model X.prog X.w) X.A (f (.int i t) (.int j u)) Q E s) :
  OpR X f (rI C λi j=>.int (g i j)):=by
 intro U s O H x y v u Q I c b h;obtain⟨i,j,rfl,rfl,d,q⟩:=h;obtain⟨t,rfl⟩:=c;obtain⟨t',rfl⟩:=b;exact rule i j t t' s _ _ d ⟨.int (g i j),H,I.tok _,⟨_,rfl⟩,q⟩
def AS
 (rule:∀(i j:Int)(t u:Tok)(s:Shared)(Q:Ε)(E:Ε),Q (.int (g i j) s.toks) { s with toks:=s.toks+1 }->wpAny (model X.prog X.w) X.A (f (.int i t) (.int j u)) Q E s) :
  OpR X f (ge λi j=>.int (g i j)):=by
 intro U s O H x y v u Q I c b h;obtain⟨i,j,rfl,rfl,q⟩:=h;obtain⟨t,rfl⟩:=c;obtain⟨t',rfl⟩:=b;exact rule i j t t' s _ _ ⟨.int (g i j),H,I.tok _,⟨_,rfl⟩,q⟩
def lh{g:Int->Int->Bool}
 (rule:∀(i j:Int)(t u:Tok)(s:Shared)(Q:Ε)(E:Ε),Q (.bool (g i j)) s->wpAny (model X.prog X.w) X.A (f (.int i t) (.int j u)) Q E s) :
  OpR X f (ge λi j=>.bl (g i j)):=by
 intro U s O H x y v u Q I b a h;obtain⟨i,j,rfl,rfl,q⟩:=h;obtain⟨t,rfl⟩:=b;obtain⟨t',rfl⟩:=a;exact rule i j t t' s _ _ ⟨.bl (g i j),H,I,rfl,q⟩
def t5(i j:Int):Prop:=0<=j/\j<=1000000/\i.natAbs<2^64
def agC(i j:Int):Prop:=(-(2^64)<i/\i<2^64)\/(-(2^64)<j/\j<2^64)
def agC.ok{i j:Int}(h:agC i j):IntMulOk i j:=by
 rcases h with⟨b,a⟩|⟨b,a⟩
 .exact .of_left (intBits_le_64 b a)
 .exact .of_right (intBits_le_64 b a)
def OU:OpR X (binaryOp .Add) (ge λi j=>.int (i+j)):=AS λ_ _ _ _ _ _ _ q=>add_int q
def Rc:OpR X (binaryOp .Sub) (ge λi j=>.int (i-j)):=AS λ_ _ _ _ _ _ _ q=>sub_int q
def Pv:OpR X (binaryOp .Mult) (rI agC λi j=>.int (i*j)):=iM λ_ _ _ _ _ _ _ a q=>mul_int q a.ok
def R1:OpR X (binaryOp .Mod) (rI (λ_ j=>0<j) λi j=>.int (i%j)):=iM λi j _ _ _ _ _ a q=>by
 have b:(0:Int)<j:=a;exact mod_int' (WP a) (by rw[Int.fmod_eq_emod_of_nonneg i (XY a)];exact q)
def Pm:OpR X (binaryOp .Pow) (rI t5 λi j=>.int (i^j.toNat)):=iM λ_ _ _ _ _ _ _ a q=>pow_int_small a.1 a.2.1 a.2.2 q
def FM{f:Value->Sem Value}{g:Int->Int}
 (rule:∀(i:Int)(t:Tok)(s:Shared)(Q:Ε)(E:Ε),Q (.int (g i) s.toks) { s with toks:=s.toks+1 }->wpAny (model X.prog X.w) X.A (f (.int i t)) Q E s) :
  p' X f (rU λi=>.int (g i)):=by
 intro U s O H x v Q I b h;obtain⟨i,rfl,q⟩:=h;obtain⟨t,rfl⟩:=b;exact rule i t s _ _ ⟨.int (g i),H,I.tok _,⟨_,rfl⟩,q⟩
def N0:p' X (unaryOp .USub) (rU λi=>.int (-i)):=FM λ_ _ _ _ _ q=>neg_int q
def jp:V->V->Bool
 |.non,.non=>true|.non,.int _=>true|.int _,.non=>true|.non,.bl _=>true|.bl _,.non=>true|.non,.str _=>true|.str _,.non=>true
 |.int _,.int _=>true|.bl _,.bl _=>true|.str _,.str _=>true|.byt _,.byt _=>true
 |.int _,.str _=>true|.str _,.int _=>true|.bl _,.str _=>true|.str _,.bl _=>true
 |_,_=>false
def GB:R2:=λx y H Q=>jp x y=true/\Q (.bl (decide (x=y))) H
def Gc:R2:=λx y H Q=>jp x y=true/\Q (.bl (!decide (x=y))) H
def Zf{i j:Int} : decide (V.int i=V.int j)=(i==j):=by
 rw[Bool.eq_iff_iff];simp
def EG{i j:Bool} : decide (V.bl i=V.bl j)=(i==j):=by
 rw[Bool.eq_iff_iff];simp
def ZC{i j:Str} : decide (V.str i=V.str j)=(i==j):=by
 rw[Bool.eq_iff_iff];simp
def ZW{i j:Array UInt8} : decide (V.byt i=V.byt j)=(i.toList==j.toList):=by
 rw[Bool.eq_iff_iff];cases i;cases j;simp
def dG{Q:VK}{k a:Bool}(I:Inv X U O H s)(q:Q (.bl k) H)(e:k=a):EP X U O Q (.bool a) s:=by
 subst e;exact⟨.bl k,H,I,rfl,q⟩
def KO:OpR X (compareOp .Eq) GB:=by
 intro U s O H x y v u Q I c a h;obtain⟨b,q⟩:=h;cases x with
 |non =>
  cases c;cases y with
  |non=>cases a;exact PySem.EqNone.eq_none_none (dG I q wr)
  |bl j=>cases a;exact PySem.EqNone.eq_none_bool (dG I q wr)
  |int j=>obtain⟨t',rfl⟩:=a;exact PySem.EqNone.eq_none_int (dG I q wr)
  |str j=>obtain⟨t',rfl⟩:=a;exact PySem.EqNone.eq_none_str (dG I q wr)
  |_=>exact absurd (show false=true from b) bw
 |bl i =>
  cases c;cases y with
  |non=>cases a;exact PySem.EqNone.eq_bool_none (dG I q wr)
  |bl j=>cases a;exact eq_bool (dG I q EG)
  |str j=>obtain⟨t',rfl⟩:=a;exact PySem.EqMixed.eq_bool_str (dG I q wr)
  |_=>exact absurd (show false=true from b) bw
 |int i =>
  obtain⟨t,rfl⟩:=c;cases y with
  |non=>cases a;exact PySem.EqNone.eq_int_none (dG I q wr)
  |int j=>obtain⟨t',rfl⟩:=a;exact eq_int (dG I q Zf)
  |str j=>obtain⟨t',rfl⟩:=a;exact PySem.EqMixed.eq_int_str (dG I q wr)
  |_=>exact absurd (show false=true from b) bw
 |str i =>
  obtain⟨t,rfl⟩:=c;cases y with
  |non=>cases a;exact PySem.EqNone.eq_str_none (dG I q wr)
  |bl j=>cases a;exact PySem.EqMixed.eq_str_bool (dG I q wr)
  |int j=>obtain⟨t',rfl⟩:=a;exact PySem.EqMixed.eq_str_int (dG I q wr)
  |str j=>obtain⟨t',rfl⟩:=a;exact eq_str (dG I q ZC)
  |_=>exact absurd (show false=true from b) bw
 |byt i =>
  obtain⟨t,rfl⟩:=c;cases y with
  |byt j=>obtain⟨t',rfl⟩:=a;exact PySem.W.eq_bytes (dG I q ZW)
  |_=>exact absurd (show false=true from b) bw
 |_=>cases y<;>exact absurd (show false=true from b) bw
def L5:OpR X (compareOp .NotEq) Gc:=by
 intro U s O H x y v u Q I c a h;obtain⟨b,q⟩:=h;cases x with
 |non =>
  cases c;cases y with
  |non=>cases a;exact PySem.EqNone.ne_none_none (dG I q wr)
  |bl j=>cases a;exact PySem.EqNone.ne_none_bool (dG I q wr)
  |int j=>obtain⟨t',rfl⟩:=a;exact PySem.EqNone.ne_none_int (dG I q wr)
  |str j=>obtain⟨t',rfl⟩:=a;exact PySem.EqNone.ne_none_str (dG I q wr)
  |_=>exact absurd (show false=true from b) bw
 |bl i =>
  cases c;cases y with
  |non=>cases a;exact PySem.EqNone.ne_bool_none (dG I q wr)
  |bl j=>cases a;exact ne_bool (dG I q (ZH not EG))
  |str j=>obtain⟨t',rfl⟩:=a;exact PySem.EqMixed.ne_bool_str (dG I q wr)
  |_=>exact absurd (show false=true from b) bw
 |int i =>
  obtain⟨t,rfl⟩:=c;cases y with
  |non=>cases a;exact PySem.EqNone.ne_int_none (dG I q wr)
  |int j=>obtain⟨t',rfl⟩:=a;exact ne_int (dG I q (ZH not Zf))
  |str j=>obtain⟨t',rfl⟩:=a;exact PySem.EqMixed.ne_int_str (dG I q wr)
  |_=>exact absurd (show false=true from b) bw
 |str i =>
  obtain⟨t,rfl⟩:=c;cases y with
  |non=>cases a;exact PySem.EqNone.ne_str_none (dG I q wr)
  |bl j=>cases a;exact PySem.EqMixed.ne_str_bool (dG I q wr)
  |int j=>obtain⟨t',rfl⟩:=a;exact PySem.EqMixed.ne_str_int (dG I q wr)
  |str j=>obtain⟨t',rfl⟩:=a;exact ne_str (dG I q (ZH not ZC))
  |_=>exact absurd (show false=true from b) bw
 |byt i =>
  obtain⟨t,rfl⟩:=c;cases y with
  |byt j=>obtain⟨t',rfl⟩:=a;exact PySem.W.ne_bytes (dG I q (ZH not ZW))
  |_=>exact absurd (show false=true from b) bw
 |_=>cases y<;>exact absurd (show false=true from b) bw
def LZ:OpR X (compareOp .Lt) (ge λi j=>.bl (decide (i<j))):=lh λ_ _ _ _ _ _ _ q=>lt_int q
def NA:OpR X (compareOp .LtE) (ge λi j=>.bl (decide (i<=j))):=lh λ_ _ _ _ _ _ _ q=>le_int q
def MA:OpR X (compareOp .Gt) (ge λi j=>.bl (decide (j<i))):=lh λ_ _ _ _ _ _ _ q=>gt_int q
def L0:OpR X (compareOp .GtE) (ge λi j=>.bl (decide (j<=i))):=lh λ_ _ _ _ _ _ _ q=>ge_int q
def O3:OpR X (compareOp .Is) (λx y H Q=>y=.non/\Q (.bl (decide (x=.non))) H):=by
 intro U s O H x y v u Q I a b h;obtain⟨rfl,q⟩:=h;cases b;refine is_none_gen (dG I q ?_);cases x<;>first
  |(cases a;rfl)
  |(obtain⟨t,rfl⟩:=a;rfl)
def X':OpR X (compareOp .IsNot) (λx y H Q=>y=.non/\Q (.bl (!decide (x=.non))) H):=by
 intro U s O H x y v u Q I a b h;obtain⟨rfl,q⟩:=h;cases b;refine isnot_none_gen (dG I q ?_);cases x<;>first
  |(cases a;rfl)
  |(obtain⟨t,rfl⟩:=a;rfl)
variable{op:CmpOp}{tc:TE}{us:Θ}{dx x C f:Addr}{mA:Str->Ω}{prog:Program}{name:Str}{pl:Sem Bool}{kw:xh}
def ES(b:Expr)(h:op≠.In:=by decide)(a:op≠.NotIn:=by decide):behindInMarks op b=false:=by
 have d:(op==CmpOp.In)=false:=by cases op<;>first|rfl|exact absurd rfl h
 have c:(op==CmpOp.NotIn)=false:=by cases op<;>first|rfl|exact absurd rfl a
 cases b<;>simp[behindInMarks,d,c]
def TM(f:OpR X (compareOp op) r)(j:PE X a ta)(i:PE X b tb)(g:behindInMarks op b=false):PE X (.Compare a [op] [b] N) (io r ta tb):=by
 intro U s O H Q I h;exact wpAny_Compare1 (ov j i I h λv u c x y l k e d q=>f U c O l x y v u Q k e d q) g
def DC(t:TE):TT:=λO H Q=>t O H λx Y=>∃k,x=.bl k/\Q k Y
def T'(m:OpR X (compareOp op) r)(p:PE X a ta)(o:PE X b tb)(n:behindInMarks op b=false):PT X (.Compare a [op] [b] N) (DC (io r ta tb)):=by
 intro U s O H Q I h;refine wpAny_isTrue_Compare1 (ah (p U s O H _ I h) λv f ⟨x,Z,w,j,l⟩=>ah (o U f O Z _ w l) λu d ⟨y,B,t,i,q2⟩ =>
  ah (m U d O B x y v u _ t j i q2) λc C ⟨z,A,q,g,k,e,q3⟩=>?_) n
 subst e;cases g;exact wpAny_truthy_bool ⟨A,q,q3⟩
def Xq(r c:R2)(ta tb tc:TE):TE:=λO H Q=>ta O H λx Z=>tb O Z λy e=>r x y e λz a=>∃k,z=.bl k /\
 (if k=true then tc O a λb d=>c y b d Q else Q (.bl false) a)
def adY{f:CmpOp}{i:R2}(E:OpR X (compareOp op) r)(L:OpR X (compareOp f) i)(J:PE X a ta)(G:PE X b tb)(hc:PE X c tc)
 (F:lastMarks [op,f] [b,c]=false:=by with_unfolding_all rfl):PE X (.Compare a [op,f] [b,c] N) (Xq r i ta tb tc):=by
 intro U s O H Q I h;refine Compare_chain (ah (J U s O H _ I h) λv t ⟨x,Z,R,B,D⟩=>chain_link (ah (G U t O Z _ R D) λu q ⟨y,T,P,g,q2⟩ =>
  ah (E U q O T x y v u _ P B g q2) λd p ⟨z,l,j,A,k,e,q3⟩=>?_)) F
 subst e;cases A;refine wpAny_truthy_bool ?_;cases k with
 |false=>exact ite_ff ⟨.bl false,l,j,rfl,q3⟩
 |true=>exact ite_tt (chain_last (ah (hc U p O l _ j q3) λn o K=>by obtain⟨m,S,M,w,C⟩:=K;exact L U o O S y m u n Q M g w C))
def _6{f:CmpOp}{i:R2}(J:OpR X (compareOp op) r)(T:OpR X (compareOp f) i)(M:PE X a ta)(L:PE X b tb)(hc:PE X c tc)
 (K:lastMarks [op,f] [b,c]=false:=by with_unfolding_all rfl):PT X (.Compare a [op,f] [b,c] N) (DC (Xq r i ta tb tc)):=by
 intro U s O H Q I h;refine isTrue_chain (ah (M U s O H _ I h) λv t ⟨x,Z,I1,C,F⟩=>test_link (ah (L U t O Z _ I1 F) λu q ⟨y,H2,Y,g,q2⟩ =>
  ah (J U q O H2 x y v u _ Y C g q2) λd p ⟨z,l,j,B,k,e,q3⟩=>?_)) K
 subst e;cases B;refine wpAny_truthy_bool ?_;cases k with
 |false =>
  obtain⟨k',S,G⟩:=q3;cases S;exact ite_ff ⟨l,j,G⟩
 |true =>
  refine ite_tt (test_last (ah (hc U p O l _ j q3) λn o ⟨m,H4,W,A,E⟩=>ah (T U o O H4 y m u n _ W g A E) λd' s5 P=>?_));obtain⟨z2,H5,V,w,k2,R,D⟩:=P;subst R;cases w;exact wpAny_truthy_bool ⟨H5,V,D⟩
def sr(K:Frag)(x:V)(H:Hp)(k:Bool):Prop :=
 match x with
 |.non=>k=false
 |.bl b=>k=b
 |.int i=>k=(i != 0)
 |.str y=>y.length<=sizeLine/\k=((y.length:Int) != 0)
 |.byt y=>y.size<=sizeLine/\k=((y.size:Int) != 0)
 |.ref p=>(∃J,SqL K H p J/\k = !J.isEmpty)\/(∃J,SqT K H p J/\k = !J.isEmpty)\/∃a,H p=some (.dK a)/\k = !a.isEmpty
 |_=>False
def YL{b:Type}{a:List (b×V)}{c:List (b×Value)}(r:KV a c):(!c.isEmpty) = !a.isEmpty:=by
 cases r<;>rfl
def M5{a:Θ}(r:z5 J a):(!a.toArray.isEmpty) = !J.isEmpty:=by
 cases r<;>simp
def Az:(sizeLine:Nat)<2^63:=by rw[sizeLine_eq];decide
def Q':K1 X (λx H Q=>∃k,sr X.K x H k/\Q k H):=by
 intro U s O H x v Q I d h;obtain⟨k,e,q⟩:=h;have A:=Az;have z:sizeLine=16777216:=sizeLine_eq;cases x with
 |non =>
  cases d;have a:k=false:=e;subst a;exact truthy_none ⟨H,I,q⟩
 |bl b =>
  cases d;have a:k=b:=e;subst a;exact wpAny_truthy_bool ⟨H,I,q⟩
 |int i =>
  obtain⟨t,rfl⟩:=d;have a:k=(i != 0):=e;subst a;exact PySem.P.truthy_int ⟨H,I,q⟩
 |str y =>
  obtain⟨t,rfl⟩:=d;obtain⟨n,a⟩ : y.length<=sizeLine/\k=((y.length:Int) != 0):=e;subst a;exact PySem.P.truthy_str wp ⟨H,I.tok _,q⟩
 |byt y =>
  obtain⟨t,rfl⟩:=d;obtain⟨n,a⟩ : y.size<=sizeLine/\k=((y.size:Int) != 0):=e;subst a;exact PySem.W.truthy_bytes (aL n wf) ⟨H,I.tok _,q⟩
 |ref p =>
  cases d;have a:(∃J,SqL X.K H p J/\k = !J.isEmpty)\/(∃J,SqT X.K H p J/\k = !J.isEmpty)\/∃c,H p=some (.dK c)/\k = !c.isEmpty:=e;rcases a with⟨J,f,a⟩|⟨J,f,a⟩|⟨c,f,a⟩
  .subst a;obtain⟨j,r,pl,l⟩:=I.list f;have o:=r.length;exact wpAny_truthy_list pl.isList (by simp only[aX];lia) ⟨H,I.tok _,by rw[M5 r];exact q⟩
  .subst a;obtain⟨j,r,pl,l⟩:=I.tuple f;have o:=r.length;exact truthy_tuple pl (by simp only[aX];lia) ⟨H,I.tok _,by rw[M5 r];exact q⟩
  .subst a;obtain⟨l,u,g,r,m⟩ : c.length<=sizeLine/\(p==sysModules)=false/\∃g,KV c g/\s.heap.DictOf (kJ X.prog X.w) p g:=I.hok p _ f;have o:c.length=g.length:=Paired.length r;exact wpAny_truthy_dict u m wp ⟨H,I.tok _,by rw[YL r];exact q⟩
 |_=>exact(show False from e).elim
def __(g:PE X a ta)(f:∀b,isTrue a X.env b=(do let v <- b;standAt a.pos;holding [v] (truthy v))) :
  PT X a (λO H Q=>ta O H λx Y=>∃k,sr X.K x Y k/\Q k Y):=by
 intro U s O H Q I h;exact isTrue_plain (ah (g U s O H _ I h) λv c i=>by obtain⟨x,Z,j,d,e⟩:=i;exact Q' U c O Z x v Q j d e) (f _)
def XC:OpR X (binaryOp .Add) (λx y H Q=>∃i j,x=.str i/\y=.str j/\i.length+j.length<=sizeLine/\Q (.str (i++j)) H):=by
 intro U s O H x y v u Q I b a h;obtain⟨i,j,rfl,rfl,c,q⟩:=h;obtain⟨t,rfl⟩:=b;obtain⟨t',rfl⟩:=a;exact add_str (λt' d=>⟨.str (i++j),H,I.tok _,⟨_,rfl⟩,q⟩) c
def vals1{x:V}(r:z5 [x] us):∃u,us=[u]/\z4 x u:=by
 cases r with
 |cons b a=>cases a;exact⟨_,rfl,b⟩
def _7:kW X (.builtin "abs") (λJ H Q=>∃i,J=[.int i]/\Q (.int (if i<0 then -i else i)) H):=by
 intro U s O H J us Q I r h;obtain⟨i,rfl,q⟩:=h;obtain⟨u,rfl,t,rfl⟩:=vals1 r;exact call_abs_int λu a=>⟨.int (if i<0 then -i else i),H,I.tok _,⟨_,rfl⟩,q⟩
def abl:kW X (.type "int") (λJ H Q=>(∃i,J=[.int i]/\Q (.int i) H)\/∃k,J=[.bl k]/\Q (.int (if k then 1 else 0)) H):=by
 intro U s O H J us Q I r h;rcases h with⟨i,rfl,q⟩|⟨k,rfl,q⟩
 .obtain⟨u,rfl,t,rfl⟩:=vals1 r;exact call_int_int ⟨.int i,H,I,⟨_,rfl⟩,q⟩
 .obtain⟨u,rfl,a⟩:=vals1 r;cases a;exact call_int_bool ⟨.int (if k then 1 else 0),H,I.tok _,⟨_,rfl⟩,q⟩
structure Xd(h:Heap)(x dx C:Addr)(mA:Str->Ω):Prop where
 obj:h.get? x=some (instObj C dx)
 ns:h.Ns1 dx mA
 ne:dx≠x
def aaP(n:h.Ns1 dx mA):∃b,h.get? dx=some b/\∀name,lookIn name b=some (mA name):=by
 obtain⟨o,es,k,f,hd,i,_,g⟩:=n;refine⟨o,f,λname=>?_⟩;have e:=g name;unfold nsFind findBy at e;rw[<- Array.find?_toList]at e;unfold lookIn;rw[hd];dsimp only;split
 .rename_i y q
  rw[q]at e;exact ZH some e
 .rename_i q
  rw[q]at e;have a:es.toList.any (·.refKey)=false:=by
   rw[List.any_eq_false];intro y d;obtain⟨z,t,c⟩:=i y (Array.mem_toList_iff.mp d);simp[DictEntry.refKey,c]
  have j:¬es.toList.any (·.refKey)=true:=by rw[a];exact bw
  rw[ZZ j];exact ZH some e
def Xd.look(I:Xd h x dx C mA):∃a,PySem.W.InstAt h x (instObj C dx) C (some a)/\∀name,lookIn name a=some (mA name) :=
 let⟨a,b,c⟩:=aaP I.ns
 ⟨a,⟨I.obj,rfl,rfl,b⟩,c⟩
def get_map{b:Bool}{Q:Ε}(X:K.In s.heap)(I:Xd s.heap x dx C mA)(g:plainGet K C name)(f:hasDictIn K C)
 (i:findIn K (.ref C) name=some none)(d:mA name=some v)(c:handedIn v)(h:Q v { s with toks:=s.toks+1 }) :
  wpAny (model prog w) A (getAttr (.ref x) name b) Q E s:=by
 obtain⟨j,J,e⟩:=I.look;exact PySem.W.get_value X J (plainGet_of g).1 (PySem.W.findObj_own f i rfl (by rw[e,d])) c h
def adJ{Q:Value×Θ->Shared->Prop}(X:K.In s.heap)(I:Xd s.heap x dx C mA)(a:plainGet K C name)
 (g:findIn K (.ref C) name=some (some (.ref f)))(d:isFn K (.ref f))(c:mA name=none)(h:Q (.ref f,[.ref x]) s) :
  wpAny (model prog w) A (getMethod (.ref x) name pl) Q E s:=by
 obtain⟨b,J,e⟩:=I.look;exact PySem.W.method_fn X J (plainGet_of a).1 (plainGet_of a).2 g (beq_iff_eq.mp d) (by show(lookIn name b).map (·.isSome)=some false;rw[e,c];rfl) h
def _n{i:Φ}(X:K.In s.heap)(I:Xd s.heap x dx C mA)
 (p:findIn K (.ref C) "__setattr__"=some (some (.builtin "object.__setattr__")))(q:plainOver K C)(o:takerIn K C name=some none)(t:hasDictIn K C)
 (n:PySem.Within mA i)(d:i.length<=sizeLine)
 (h:∀h',Xd h' x dx C (λy=>if y=name then some v else mA y)->Heap.SameBut dx s.heap h'->Q () { s with heap:=h',toks:=s.toks+2 }) :
  wpAny (model prog w) A (setAttr (.ref x) name v) Q E s:=by
 obtain⟨F,J,H⟩:=I.look;refine PySem.W.set_plain X J p (PySem.W.osa_open (s:={ s with toks:=s.toks+1 }) (r:=none) X J q o λb=>?_);obtain⟨L,u,D⟩:=PySem.W.any_some t;have m:s.heap.get? x=some ⟨.ref C,some dx,.plain,#[]⟩:=I.obj;refine ZU (ZT (ZU (ZU (wpAny_loadPart m (ZU (PySem.W.Looks.here (s:={ s with toks:=s.toks+1 }) (PySem.W.looks_clsIn X u) ?_))))));rw[D];refine ZT (a:=some dx) (ZU (ZT (ZU ?_)));refine wpAny_nsSet1 (s:={ s with toks:=s.toks+1 }) I.ns λh' j l=>?_;obtain⟨G,z,B,e,f,g⟩:=j.count (PySem.Within.cons name v n);refine ZU (wpAny_lookBehind e (by rw[f];exact pastItsLine_dict (aL g (by rw[length_cons];exact succ_le_succ d))) ?_);exact ZT (h _ ⟨(l.2 _ (Ne.symm I.ne)).trans I.obj,j,I.ne⟩ l)
def ad7{R:Result->Shared->Prop}{b:Θ}(X:K.In s.heap)(e:makesIn K C)
 (i:findIn K (.ref C) "__init__"=some (some (.ref f)))(j:PySem.W.typeIn K (.ref f)=some (.type "function"))
 (h:codeAny (model prog w) (A.under (.builtin "type.__call__" ⟨.ref C::b,kw⟩)) (.call (.ref f) ⟨.ref (s.zs+1)::b,kw⟩) (PySem.W.InitBack (s.zs+1) R)
   { s with heap:=(s.heap.push emptyDict).push (instObj C s.zs) }) :
  codeAny (model prog w) A (.call (.ref C) ⟨b,kw⟩) R s:=by
 obtain⟨k,g,d,t,os⟩:=s;exact PySem.W.make_core (PySem.W.makes_of X e) (PySem.W.looks_findIn X i) (λa=>PySem.W.bind_fn X a j) (.inl rfl) h
def xY(f:Str)(v:V):xn->xn
 |[]=>[(f,v)]
 |(g,x)::r=>if g=f then(g,v)::r else(g,x)::xY f v r
theorem Ir(f g:Str)(v:V):∀c:xn,(xY f v c).lookup g=if g=f then some v else c.lookup g
 |[]=>by
  show List.lookup g [(f,v)]=_;by_cases h:g=f
  .have a:(g==f):=beq_iff_eq.mpr h;simp only[List.lookup,a,ZY h]
  .have a:(g==f)=false:=beq_eq_false_iff_ne.mpr h;simp only[List.lookup,a,ZZ h]
 |(k,x)::r=>by
  have d:=Ir f g v r;rw[show xY f v ((k,x)::r)=(if k=f then(k,v)::r else(k,x)::xY f v r)from rfl];by_cases b:k=f
  .rw[ZY b];by_cases h:g=k
   .have a:(g==k):=beq_iff_eq.mpr h;simp only[List.lookup,a,ZY (h.trans b)]
   .have a:(g==k)=false:=beq_eq_false_iff_ne.mpr h;simp only[List.lookup,a,ZZ (λe:g=f=>h (e.trans b.symm))]
  .rw[ZZ b];by_cases h:g=k
   .have a:(g==k):=beq_iff_eq.mpr h;simp only[List.lookup,a,ZZ (λe:g=f=>b (h.symm.trans e))]
   .have a:(g==k)=false:=beq_eq_false_iff_ne.mpr h;simp only[List.lookup,a];exact d
theorem Hs(f:Str)(v:V):∀b:xn,f∈(xY f v b).map (·.1)/\∀g,g∈b.map (·.1)->g∈(xY f v b).map (·.1)
 |[]=>⟨by simp[xY],λg h=>by simp at h⟩
 |(k,x)::r=>by
  obtain⟨d,c⟩:=Hs f v r;rw[show xY f v ((k,x)::r)=(if k=f then(k,v)::r else(k,x)::xY f v r)from rfl];by_cases a:k=f
  .rw[ZY a];subst a;exact⟨by simp,λg h=>by simpa using h⟩
  .rw[ZZ a];refine⟨?_,λg h=>?_⟩
   .rw[map_cons];exact aJ _ d
   .rw[map_cons]at h ⊢;rcases YU.mp h with e|e
    .exact YU.mpr (.inl e)
    .exact aJ _ (c g e)
theorem Iv(f:Str)(v:V):∀b:xn,(xY f v b).length<=b.length+1
 |[]=>by simp[xY]
 |(k,x)::r=>by
  have c:=Iv f v r;rw[show xY f v ((k,x)::r)=(if k=f then(k,v)::r else(k,x)::xY f v r)from rfl];by_cases a:k=f
  .rw[ZY a,length_cons,length_cons];exact Xs _
  .rw[ZZ a,length_cons,length_cons];exact succ_le_succ c
variable{v:V}{a:Addr}{fs:xn}{f m:Str}{b:Bool}
def Cg.some_of{o:Ω}(r:Cg (some v) o):∃u,o=some u/\z4 v u:=by
 cases o with
 |none=>exact(show False from r).elim
 |some u=>exact⟨u,rfl,r⟩
def Cg.none_of{o:Ω}(r:Cg none o):o=none:=by
 cases o with
 |none=>rfl
 |some u=>exact(show False from r).elim
def aaK(r:z4 v u):handedIn u:=by
 cases v with
 |non=>cases(show u=Value.none from r);rfl
 |bl b=>cases(show u=Value.bool b from r);rfl
 |int i=>obtain⟨t,e⟩:=(show ∃t,u=Value.int i t from r);cases e;rfl
 |str x=>obtain⟨t,e⟩:=(show ∃t,u=Value.str x t from r);cases e;rfl
 |byt b=>obtain⟨t,e⟩:=(show ∃t,u=Value.bytes b t from r);cases e;rfl
 |flt b=>obtain⟨t,e⟩:=(show ∃t,u=Value.float b t from r);cases e;rfl
 |ref a=>cases(show u=Value.ref a from r);rfl
 |ty n=>cases(show u=Value.type n from r);rfl
def Kl(b:HOk P w H h)(e:H a=some (.ins C dx fs)):∃mA,Xd h a dx C mA/\(∀f,Cg (fs.lookup f) (mA f))/\PySem.Within mA (fs.map (·.1))/\fs.length<=1000/\H dx=some (.own a):=by
 obtain⟨d,z,g,c,mA,n,r,q⟩:=(show gG P w H h a (.ins C dx fs)from b a _ e);exact⟨mA,⟨c,n,g⟩,r,q,z,d⟩
structure Cls(K:Frag)(C:Addr):Prop where
 pg:plainGet K C Str.empty
 hd:hasDictIn K C
 po:plainOver K C
 sa:findIn K (.ref C) "__setattr__"=some (some (.builtin "object.__setattr__"))
def Cls.get{K:Frag}{C:Addr}(c:Cls K C)(f:Str):plainGet K C f:=c.pg
def cD(K:Frag)(C:Addr)(f:Str):Prop:=findIn K (.ref C) f=some none
def cD.taker(n:cD K C f):takerIn K C f=some none:=by
 unfold takerIn;rw[show findIn K (.ref C) f=some none from n]
 rfl
structure Meth(K:Frag)(C:Addr)(m:Str)(f:Addr):Prop where
 at_:findIn K (.ref C) m=some (some (.ref f))
 fn:isFn K (.ref f)
 kp:keepIn K (.ref f)
def Xy{Q:Ε}(I:Inv X U O H s)(e:H a=some (.ins C dx fs))(c:Cls X.K C)(n:cD X.K C f)(l:fs.lookup f=some v)
 (h:∀u s',Inv X U O H s'->z4 v u->Q u s'):wpAny (model X.prog X.w) A (getAttr (.ref a) f b) Q E s:=by
 obtain⟨mA,d,r,_,_,_⟩:=Kl I.hok e;obtain⟨u,i,g⟩:=Cg.some_of (v:=v) (o:=mA f) (by rw[<- l];exact r f);exact get_map I.kIn d (c.get f) c.hd n i (aaK g) (h u _ (I.tok _) g)
def La{g:Addr}{Q:Value×Θ->Shared->Prop}(I:Inv X U O H s)(e:H a=some (.ins C dx fs))(c:Cls X.K C)(k:Meth X.K C m g)(l:fs.lookup m=none)
 (h:Q (.ref g,[.ref a]) s):wpAny (model X.prog X.w) A (getMethod (.ref a) m pl) Q E s:=by
 obtain⟨mA,b,r,_,_,_⟩:=Kl I.hok e;have d:mA m=none:=Cg.none_of (by rw[<- l];exact r m);exact adJ I.kIn b (c.get m) k.at_ k.fn d h
def Yt{y:V}(I:Inv X U O H s)(e:H a=some (.ins C dx fs))(c:Cls X.K C)(n:cD X.K C f)(t:fs.length<1000)(m:z4 y u)
 (h:∀s',Inv X U O (upd H a (.ins C dx (xY f y fs))) s'->Q () s'):wpAny (model X.prog X.w) A (setAttr (.ref a) f u) Q E s:=by
 obtain⟨mA,d,r,j,_,k⟩:=Kl I.hok e;have p:(fs.map (·.1)).length<=sizeLine:=by rw[ak,sizeLine_eq];exact aL (Y2 t) wf
 refine _n I.kIn d c.sa c.po n.taker c.hd j p λh' i l=>h _ ?_;have hd:∃o,h'.get? dx=some o:=by obtain⟨o,_,_,D,_⟩:=i.ns;exact⟨o,D⟩
 refine I.write (x:=a) (e:=dx) (by rw[e];exact True.intro) (.inr k) (λb q B z=>(l.2 b B).trans z) hd ?_;refine⟨by rw[cA d.ne];exact k,?_,d.ne,i.obj,_,i.ns,λg=>?_,λg v=>?_⟩
 .have:=Iv f y fs;lia
 .show Cg ((xY f y fs).lookup g) (if g=f then some u else mA g);rw[Ir];by_cases q:g=f
  .rw[ZY q,ZY q];exact m
  .rw[ZZ q,ZZ q];exact r g
 .by_cases q:g=f
  .rw[q];exact(Hs f y fs).1
  .refine(Hs f y fs).2 g (j g λz=>v ?_);show(if g=f then some u else mA g)=none;rw[ZZ q];exact z
def Inv.made(I:Inv X U O H s):Inv X U O (upd (upd H s.zs (.own (s.zs+1))) (s.zs+1) (.ins C s.zs []))
  { s with heap:=(s.heap.push emptyDict).push (instObj C s.zs) }:=by
 have f:(s.heap.push emptyDict).get? s.zs=some emptyDict:=aW s.heap rfl;have j:((s.heap.push emptyDict).push (instObj C s.zs)).get? (s.zs+1)=some (instObj C s.zs):=by
  have:=aW (s.heap.push emptyDict) (o:=instObj C s.zs) rfl;rwa[Heap.size_push]at this
 have i:(s.heap.push emptyDict).Ns s.zs (λ_=>none):=⟨emptyDict,#[],_,f,rfl,(λe h=>absurd h wr),λ_=>rfl⟩;have k:=I.laid (a:=s.zs) (o:=.own (s.zs+1)) (h':=s.heap.push emptyDict) (t':=s.toks) (λb u q=>aH _ q) (aG _) ⟨_,f⟩;refine k.laid (a:=s.zs+1) (o:=.ins C s.zs []) (t':=s.toks) (λb u q=>aH _ q) (WG (Heap.size_push _ _)) ?_;have c:s.zs≠s.zs+1:=aQ (X2 _);refine⟨by rw[cA c,cF],aZ _,c,j,λ_=>none,(Heap.Ns1.of_empty i).at λo q=>aH _ q,λ_=>True.intro,λy g=>absurd rfl g⟩
variable{Q:Ε}{o aI:Expr}{tv:TE}{c:Value}{t:TA}
def ZE{env:Env}(b:attributeBase e f env (eval e env)=eval e env)
 (h:wpAny (model prog w) A (eval e env) (λo a=>wpAny (model prog w) A (getAttr o f true) Q E a) E s):wpAny (model prog w) A (eval (.Attribute e f N) env) Q E s :=
 Attribute_any_ h (by rw[arm_eval_Attribute,b])
def IS(K:Frag)(ta:TE)(f:Str):TE:=λO H Q=>ta O H λx Z=>∃a C dx fs v,x=.ref a/\Z a=some (.ins C dx fs)/\Cls K C/\cD K C f/\fs.lookup f=some v/\Q v Z
def Iq(K:Frag)(ta tv:TE)(f:Str):TS:=λD O H=>tv O H λy Z=>ta O Z λx b=>∃a C dx fs,x=.ref a/\b a=some (.ins C dx fs)/\Cls K C/\cD K C f/\fs.length<1000 /\
 D.nx O (upd b a (.ins C dx (xY f y fs)))
abbrev zo(X:Cx)(a:Expr)(b:Str):Prop:=attributeBase a b X.env (eval a X.env)=eval a X.env
def DO(g:PE X e ta)(i:zo X e f):PE X (.Attribute e f N) (IS X.K ta f):=by
 intro U s O H Q I h;refine ZE i (ah (g U s O H _ I h) λu r h=>?_);obtain⟨x,Z,m,b,a,C,dx,fs,v,rfl,j,c,n,l,q⟩:=h;obtain rfl:u=Value.ref a:=b;exact Xy m j c n l λo p k d=>⟨v,Z,k,d,q⟩
def PH(k:PE X o ta)(i:PE X aI tv)(j:swapsWith aI (some (.Attribute o f bo)) N.line X.env=pure false):PS X (.Assign [.Attribute o f bo] aI N) (Iq X.K ta tv f):=by
 intro U s O H D I h;refine plainObj_wpAny_Assign_Attribute (ah (i U s O H _ I h) λu b ⟨y,Z,t,d,q⟩=>ah (k U b O Z _ t q) λg w h=>?_) j;obtain⟨x,z,r,e,a,C,dx,fs,rfl,m,c,n,l,q2⟩:=h;obtain rfl:g=Value.ref a:=e;exact Yt r m c n l d λv p=>⟨O,_,p,q2⟩
inductive HX(K:Frag)(H:Hp):V->Value->Prop where
 |non:HX K H .non (.type "NoneType")
 |bl (x:Bool):HX K H (.bl x) (.type "bool")
 |int (i:Int):HX K H (.int i) (.type "int")
 |str (x:Str):HX K H (.str x) (.type "str")
 |flt (x:UInt64):HX K H (.flt x) (.type "float")
 |lst {a:Addr}{J:Ζ} (e:H a=some (.lst J)):HX K H (.ref a) (.type "list")
 |frz {a:Addr}{o:Obj}{J:Ζ} (e:H a=some (.frz o (.lst J))):HX K H (.ref a) (.type "list")
 |tup {a:Addr}{J:Ζ} (e:H a=some (.tup J)):HX K H (.ref a) (.type "tuple")
 |dK {a:Addr}{kvs:xF} (e:H a=some (.dK kvs)):HX K H (.ref a) (.type "dict")
 |ins {a C dx:Addr}{fs:xn} (e:H a=some (.ins C dx fs)) (cl:Cls K C) (ha:findIn K (.ref C) "__class__"=some (some (.builtin "object.__class__")))
   (hn:specialIn K (.builtin "object.__class__") "__get__"=some (some (.builtin "getset_descriptor.__get__"))) (htk:PySem.W.takesIn K (.builtin "object.__class__")=some true)
   (hm:mroIn K C (.type "object")=some true):HX K H (.ref a) (.ref C)
def abx{x:V}{t:Value}(I:Inv X U O H s)(g:z4 x u)(D:HX X.K H x t)(e:kitOne X.K t c=some b)(h:∀F,Q (.bool b) { s with toks:=F }) :
  wpAny (model X.prog X.w) A (call (.builtin "isinstance") [u,c]) Q E s:=by
 cases D with
 |non=>cases(show u=Value.none from g);exact kia_one PySem.W.kitx_none I.kIn True.intro e (λz=>nomatch z) h
 |bl y=>cases(show u=Value.bool y from g);exact kia_one PySem.W.kitx_bool I.kIn True.intro e (λz=>nomatch z) h
 |int i=>obtain⟨t,q⟩:=(show ∃t,u=Value.int i t from g);cases q;exact kia_one PySem.W.kitx_int I.kIn True.intro e (λz=>nomatch z) h
 |str y=>obtain⟨t,q⟩:=(show ∃t,u=Value.str y t from g);cases q;exact kia_one PySem.W.kitx_str I.kIn True.intro e (λz=>nomatch z) h
 |flt y=>obtain⟨t,q⟩:=(show ∃t,u=Value.float y t from g);cases q;exact kia_one PySem.W.kitx_float I.kIn True.intro e (λz=>nomatch z) h
 |@lst a J j =>
  cases(show u=Value.ref a from g);obtain⟨_,_,n,_,k⟩:=(show gG X.prog X.w H s.heap a (.lst J)from I.hok a _ j);exact kia_one kitx_list I.kIn ⟨_,k,rfl⟩ e (λz=>nomatch z) h
 |@frz a G J j =>
  cases(show u=Value.ref a from g);obtain⟨_,_,_,n,_,k⟩:=(show gG X.prog X.w H s.heap a (.frz G (.lst J))from I.hok a _ j);exact kia_one kitx_list I.kIn ⟨_,k,rfl⟩ e (λz=>nomatch z) h
 |@tup a J j =>
  cases(show u=Value.ref a from g);obtain⟨_,_,_,p⟩:=(show gG X.prog X.w H s.heap a (.tup J)from I.hok a _ j);obtain⟨o,k,r,_⟩:=p;exact kia_one kitx_tuple I.kIn ⟨o,k,r⟩ e (λz=>nomatch z) h
 |@dK a l j =>
  cases(show u=Value.ref a from g);obtain⟨_,_,P,_,p⟩:=(show gG X.prog X.w H s.heap a (.dK l)from I.hok a _ j);obtain⟨o,es,S,k,r,_⟩:=p;exact kia_one PySem.W.kitx_dict I.kIn ⟨o,k,r.1⟩ e (λz=>nomatch z) h
 |@ins a C dx fs j B N L m M =>
  cases(show u=Value.ref a from g);obtain⟨mA,d,_⟩:=Kl I.hok j;obtain⟨R,f,_⟩:=d.look;exact kia_one (PySem.W.kitx_own (B.get _) B.hd N L m M) I.kIn f e (λz=>nomatch z) h
structure dX(k:Nat)(A:Around):Prop where
 hd:A.handled=none
 dp:A.depth+3*k+5<recursionLimit
 un:A.units+16*k+200<cLine
def dX.mono{j:Nat}(r:dX k A)(h:j<=k):dX j A:=⟨r.hd,by have:=r.dp;lia,by have:=r.un;lia⟩
def dX.md{n:Nat}(h:dX n A)(e:k<=n:=by decide):dX k A:=h.mono e
def dX.deeper{k:Nat}{A:Around}(r:dX (k+1) A)(env:Env):dX k (A.deeper env) :=
 ⟨r.hd,by have:=r.dp;show A.depth+1+3*k+5<_;lia,by have:=r.un;show A.units+3+16*k+200<_;lia⟩
def Xk : (A.under (.builtin "type.__call__" ⟨.ref C::us,kw⟩)).depth=A.depth+1:=by
 first|rfl|simp[Around.under,Code.weight,Code.isCreation,Code.isGuard,Code.isCaller,Code.frames,Code.isFrame,guardIds]
def Yk : (A.under (.builtin "type.__call__" ⟨.ref C::us,kw⟩)).units=A.units+1:=by
 first|rfl|simp[Around.under,Code.cUnits,Code.frames,Code.isFrame]
def dX.make(r:dX (k+1) A)(C:Addr)(us:Θ)(kw:xh):dX k (A.under (.builtin "type.__call__" ⟨.ref C::us,kw⟩)) :=
 ⟨r.hd,by have:=r.dp;rw[Xk];lia,by have:=r.un;rw[Yk];lia⟩
def dX.depth{k:Nat}{A:Around}(r:dX k A):A.depth<recursionLimit:=by have:=r.dp;lia
def dX.units{k:Nat}{A:Around}(r:dX k A):A.units+64<cLine:=by have:=r.un;lia
def n7:TA:=λ_ H Q=>Q [] H
def LY(ta:TE)(tr:TA):TA:=λO H Q=>ta O H λx Z=>tr O Z λJ a=>Q (x::J) a
def zW:PA X [] n7:=λ_ _ _ _ H Q I h=>Calls.spliced_nil ⟨[],H,I,.nil,h⟩
abbrev qS(X:Cx)(a:Expr)(b:xw):Prop:=starEach (a::b) X.env=(false,eval a X.env)::starEach b X.env
def f9(j:PE X e te)(i:PA X es t)(g:qS X e es:=by rfl):PA X (e::es) (LY te t):=by
 intro N U s O H Q I h;rw[g];show wpAny _ _ (spliced ((false,eval e X.env)::backTo N (starEach es X.env))) _ _ s;refine Calls.spliced_cons (ah (j U s O H _ I h) λu b a=>?_);obtain⟨x,Z,l,d,f⟩:=a;exact ah (i N U b O Z _ l f) λus n a=>by obtain⟨J,m,k,c,q2⟩:=a;exact⟨x::J,m,k,.cons d c,q2⟩
def K0(t:TA):TE:=λO H Q=>t O H λJ Z=>J.length<=sizeLine/\∀p,Z p=none->Q (.ref p) (upd Z p (.tup J))
def IM(t:TA):TE:=λO H Q=>t O H λJ Z=>J.length<=sizeLine/\∀p,Z p=none->Q (.ref p) (upd Z p (.lst J))
def SU{d}(h:PA X es t):PE X (.Tuple es d N) (K0 t):=by
 intro U s O H Q I f;refine wpAny_Tuple_spliced (ah (h N U s O H _ I f) λus a ⟨J,Z,c,r,z,q⟩=>⟨by rw[<- r.length];exact z,?_⟩);have g:Z a.zs=none:=c.hok.fresh (aG _);refine⟨.ref a.zs,upd Z a.zs (.tup J),c.laid (t':=a.toks) (λb u e=>aH _ e) (aG _) ?_,rfl,q _ g⟩;exact⟨z,us,r,⟨_,aW _ rfl,rfl,_,rfl⟩⟩
def Re(h:PA X es t):PE X (.List es N) (IM t):=by
 intro U s O H Q I d;refine wpAny_List_spliced (ah (h N U s O H _ I d) λus a ⟨J,Z,c,r,z,q⟩=>⟨by rw[<- r.length];exact z,?_⟩);have f:Z a.zs=none:=c.hok.fresh (aG _);refine⟨.ref a.zs,upd Z a.zs (.lst J),c.laid (t':=a.toks) (λb u e=>aH _ e) (aG _) ?_,rfl,q _ f⟩;exact⟨z,us,0,r,aW _ rfl⟩
abbrev Sp:=Ζ->Hp->VK->XK->Prop
abbrev eS:=xt->Hp->Shared->XK->Value->Shared->Prop
structure Mw(P:Program)(w:World)(K:Frag)(mg:Str->Ω)(base:Heap)(A:Around)(outer:xt)(s:Shared)(H:Hp):Prop where
 frames:A.frames=some outer
 mod:Mod K mg base
 bs:∀b o,base.get? b=some o->s.heap.get? b=some o/\H b=none
 bsz:base.objs.size<=s.zs
 funs:s.heap.FunFrames base outer
 frf:∀b∈ci outer,H b=none
 hok:HOk P w H s.heap
 bare:AllBare s.gens
def CE(a:xt)(P:Program)(w:World)(H:Hp)(s:Shared)(Q:VK)(u:Value)(s':Shared):Prop :=
 ∃v Y,s'.os=s.os/\AllBare s'.gens/\Un (ci a) [] H Y s.heap s'.heap/\HOk P w Y s'.heap/\z4 v u/\Q v Y
def CR(b:eS)(a:xt)(P:Program)(w:World)(H:Hp)(s:Shared)(Q:VK)(E:XK)(r:Result)(s':Shared):Prop :=
 match r with
 |.ok (.ret u)=>CE a P w H s Q u s'
 |.ok _=>False
 |.error e=>b a H s E e s'
structure bW(P:Program)(w:World)(K:Frag)(mg:Str->Ω)(base:Heap)(CX:eS)(k:Nat)(f:Addr)(fd:FuncData)(ps:Φ)(sp:Sp):Prop where
 len:∀vs H Q E,sp vs H Q E->vs.length=ps.length
 run:∀(A:Around)(outer:xt)(s:Shared)(H:Hp)(args:Args)(us:Θ)(vs:Ζ)(Q:VK)(E:XK),dX k A->Mw P w K mg base A outer s H->BindsTo s fd args (ps.zip us)->z5 vs us->sp vs H Q E ->
  codeAny (model P w) A (.call (.ref f) args) (CR CX outer P w H s Q E) s
variable{f:Addr}{mg:Str->Ω}{base:Heap}{CX:eS}{fd:FuncData}{ps:Φ}{sp:Sp}{Q:VK}{E:XK}{vs dm:Ζ}{ds:Θ}{x:Str}{ai:Pos}{I:Scope}
def bW.imp{b:Sp}(F:bW P w K mg base CX k f fd ps sp)
 (h:∀vs H Q E,b vs H Q E->sp vs H Q E):bW P w K mg base CX k f fd ps b :=
 ⟨λvs H Q E q=>F.len vs H Q E (h _ _ _ _ q),λA a s H c us vs Q E g i j d e=>F.run A a s H c us vs Q E g i j d (h _ _ _ _ e)⟩
def Mw.make{a:xt}(e:Mw P w K mg base A a s H)(C:Addr)(us:Θ)(kw:xh) :
  Mw P w K mg base (A.under (.builtin "type.__call__" ⟨.ref C::us,kw⟩)) a s H:=⟨by first|exact e.frames|(simpa[Around.under,Code.envs,Code.isFrame,pushEnvs]using e.frames),e.mod,e.bs,e.bsz,e.funs,e.frf,e.hok,e.bare⟩
def Inv.env0(I:Inv X U O H s):Mw X.prog X.w X.K X.mg X.base X.A X.stack s H :=
 ⟨I.ok.frames,I.ok.mod,I.bs,aL I.ok.bsz I.sz,I.stack,I.stkFree,I.hok,I.bare⟩
def Inv.after(I:Inv X U O H s)(h:CE X.stack X.prog X.w H s Q u s'):EP X U O Q u s':=by
 obtain⟨v,Y,os,bare,un,hok,r,q⟩:=h;obtain⟨c,g,d,t,a⟩:=s';obtain rfl:a=s.os:=os;exact⟨v,Y,I.call (h':=c) (g':=g) (d':=d) (t':=t) (ch:=[]) un hok bare (λb z=>absurd z wr),r,q⟩
def Na(sp:Sp)(dm:Ζ)(E:XK)(t:TA):TE:=λO H Q=>t O H λvs Z=>sp (vs++dm) Z Q E
def C4(C:Addr)(m:Str)(sp:Sp)(dm:Ζ)(E:XK)(ta:TE)(t:TA):TE:=λO H Q=>ta O H λx Z=>∃a dx fs,x=.ref a/\Z a=some (.ins C dx fs)/\fs.lookup m=none /\
 t O Z λvs b=>sp (x::(vs++dm)) b Q E
def Mb(C:Addr)(sp:Sp)(dm:Ζ)(E:XK)(t:TA):TE:=λO H Q=>t O H λvs Z=>∀x dx,Z x=none->Z dx=none->dx≠x ->
 sp (.ref x::(vs++dm)) (upd (upd Z dx (.own x)) x (.ins C dx [])) (λv a=>v=.non/\Q (.ref x) a) E
def Binds(K:Frag)(fd:FuncData)(ps:Φ)(ds:Θ):Prop :=
 ∀(s:Shared)(us:Θ),K.In s.heap->(us++ds).length=ps.length->BindsTo s fd ⟨us,[]⟩ (ps.zip (us++ds))
def Binds.all(h:∀us:Θ,us.length=ps.length->bindArgs fd ⟨us,[]⟩=pure (ps.zip us)):Binds K fd ps []:=λs us _ a=>by
 rw[append_nil]at a ⊢;exact .of_eq (h us a)
def Passes(CX:eS)(X:Cx)(E:XK):Prop:=∀(U:Δ)(O:St)(H:Hp)(s:Shared)(e:Value)(s':Shared),Inv X U O H s->CX X.stack H s E e s'->X.xe e s'
def Nm(F:bW X.prog X.w X.K X.mg X.base CX k f fd ps sp)(d:dX k X.A)(i:Binds X.K fd ps ds)(hd:z5 dm ds)(c:Passes CX X E)
 (I:Inv X U O H s)(r:z5 vs us)(h:sp (vs++dm) H Q E):wpAny (model X.prog X.w) X.A (call (.ref f) us) (EP X U O Q) X.xe s:=by
 have b:z5 (vs++dm) (us++ds):=r.append hd;have g:(us++ds).length=ps.length:=by rw[<- b.length];exact F.len _ _ _ _ h
 refine wpAny_call (codeAny_mono (F.run X.A X.stack s H ⟨us,[]⟩ (us++ds) (vs++dm) Q E d I.env0 (i s us I.kIn g) b h) λr s' a=>?_);cases r with
 |error e=>exact c U O H s e s' I a
 |ok j =>
  cases j with
  |ret u=>exact I.after a
  |next=>exact False.elim a
  |brk=>exact False.elim a
  |cont=>exact False.elim a
abbrev qE(X:Cx)(a:Pos)(b:xw):Prop:=(backTo a (starEach b X.env)).any (·.1)=false
def UO(F:bW X.prog X.w X.K X.mg X.base CX k f fd ps sp)(c:dX k X.A)(i:Gl X x)(d:X.mg x=some (.ref f))(g:keepIn X.K (.ref f))(l:Binds X.K fd ps ds)(hd:z5 dm ds)(b:Passes CX X E)
 (m:PA X (e::es) t)(n:qV x:=by decide)(j:qS X e es:=by rfl)(o:qE X N es:=by rfl) :
  PE X (.Call (.Name x p) (e::es) [] N) (Na sp dm E t):=by
 intro U s O H Q I h;refine wpAny_Call_Name_kw (FW I i d ?_ n);refine callWith_K (h₀:=X.base) I.ok.mod.kin g (ah (m N U s O H _ I h) λus u ⟨vs,Z,a,r,q⟩=>⟨a.kIn,?_⟩) j o;exact Nm F c l hd b a r q
def _o(z:PE X o ta)(c:Cls X.K C)(d:Meth X.K C m f)(F:bW X.prog X.w X.K X.mg X.base CX k f fd ps sp)(y:dX k X.A)(B:Binds X.K fd ps ds)(hd:z5 dm ds)(p:Passes CX X E)(D:PA X (e::es) t)
 (M:qS X e es:=by rfl)(P:qE X N es:=by rfl)
 (v:eval (.Call (.Attribute o m ai) (e::es) [] N) X.env=(do
   let b <- eval o X.env
   standAt ai.atName
   let(f,first) <- holding [b] (getMethod b m pl)
   callWith N f first (backTo N (starEach (e::es) X.env)) (backToKw N (keywordEach [] X.env))):=by rfl) :
  PE X (.Call (.Attribute o m ai) (e::es) [] N) (C4 C m sp dm E ta t):=by
 intro U s O H Q I h;refine methodCall_KW (pl:=pl) (ah (z U s O H _ I h) λu j G=>?_) v;obtain⟨x,Z,i,n,a,dx,fs,J,L,l,q⟩:=G;subst J;obtain rfl:u=Value.ref a:=n;refine La i L c d l ?_;refine callWith_K (first:=[.ref a]) (h₀:=X.base) I.ok.mod.kin d.kp (ah (D N U j O Z _ i q) λus R ⟨vs,S,g,r,q2⟩=>⟨g.kIn,?_⟩) M P;exact Nm (us:=.ref a::us) (vs:=.ref a::vs) F y B hd p g (.cons rfl r) q2
def _z(p:PE X o ta)(c:Cls X.K C)(e:Meth X.K C m f)(F:bW X.prog X.w X.K X.mg X.base CX k f fd ps sp)(n:dX k X.A)(r:Binds X.K fd ps ds)(hd:z5 dm ds)(i:Passes CX X E)
 (j:eval (.Call (.Attribute o m ai) [] [] N) X.env=(do
   let d <- eval o X.env
   standAt ai.atName
   let(f,first) <- holding [d] (getMethod d m pl)
   callWith N f first (backTo N (starEach [] X.env)) (backToKw N (keywordEach [] X.env))):=by rfl) :
  PE X (.Call (.Attribute o m ai) [] [] N) (C4 C m sp dm E ta n7):=by
 intro U s O H Q I h;refine methodCall_KW (pl:=pl) (ah (p U s O H _ I h) λu z t=>?_) j;obtain⟨x,Z,b,g,a,dx,fs,v,y,l,q⟩:=t;subst v;obtain rfl:u=Value.ref a:=g;refine La b y c e l ?_;exact PySem.W.callWith_K0 (first:=[.ref a]) b.kIn e.kp (Nm (us:=[.ref a]) (vs:=[.ref a]) F n r hd i b (.cons rfl .nil) q)
structure Mk(K:Frag)(C f:Addr):Prop where
 makes:makesIn K C
 init:findIn K (.ref C) "__init__"=some (some (.ref f))
 fn:isFn K (.ref f)
 kp:keepIn K (.ref C)
def acX(M:Mk X.K C f)(F:bW X.prog X.w X.K X.mg X.base CX k f fd ps sp)(j:dX (k+1) X.A)(m:Binds X.K fd ps ds)(hd:z5 dm ds)
 (i:Passes CX X E)(I:Inv X U O H s)(r:z5 vs us)
 (h:∀x dx,H x=none->H dx=none->dx≠x->sp (.ref x::(vs++dm)) (upd (upd H dx (.own x)) x (.ins C dx [])) (λv q=>v=.non/\Q (.ref x) q) E) :
  wpAny (model X.prog X.w) X.A (call (.ref C) us) (EP X U O Q) X.xe s:=by
 have d:=h (s.zs+1) s.zs (I.hok.fresh (Xs _)) (I.hok.fresh (aG _)) (aQ (X2 _));have b:=Inv.made (C:=C) I;have c:z5 (V.ref (s.zs+1)::(vs++dm)) (Value.ref (s.zs+1)::(us++ds)):=.cons rfl (r.append hd);have l:(Value.ref (s.zs+1)::us++ds).length=ps.length:=by
  have e:=c.length;rw[F.len _ _ _ _ d]at e;exact e.symm
 refine wpAny_call (ad7 (f:=f) I.kIn M.makes M.init (beq_iff_eq.mp M.fn) (codeAny_mono (F.run _ X.stack _ _ ⟨Value.ref (s.zs+1)::us,[]⟩ (Value.ref (s.zs+1)::(us++ds)) _ _ E (j.make C us [])
  (b.env0.make C us []) (m _ (Value.ref (s.zs+1)::us) b.kIn l) c d) λr s' a=>?_))
 cases r with
 |error e=>exact i U O _ _ e s' b a
 |ok n =>
  cases n with
  |ret u =>
   obtain⟨v,Y,p,g,o,q3⟩:=b.after a;subst o;exact⟨g,⟨V.ref (s.zs+1),Y,p,rfl,q3⟩⟩
  |next=>exact False.elim a
  |brk=>exact False.elim a
  |cont=>exact False.elim a
def V'(M:Mk X.K C f)(F:bW X.prog X.w X.K X.mg X.base CX k f fd ps sp)(c:dX (k+1) X.A)(g:Gl X x)(d:X.mg x=some (.ref C))(j:Binds X.K fd ps ds)(hd:z5 dm ds)(b:Passes CX X E)
 (l:PA X (e::es) t)(m:qV x:=by decide)(i:qS X e es:=by rfl)(n:qE X N es:=by rfl) :
  PE X (.Call (.Name x p) (e::es) [] N) (Mb C sp dm E t):=by
 intro U s O H Q I h;refine wpAny_Call_Name_kw (FW I g d ?_ m);refine callWith_K (h₀:=X.base) I.ok.mod.kin M.kp (ah (l N U s O H _ I h) λus o ⟨vs,Z,a,r,q⟩=>⟨a.kIn,?_⟩) i n;exact acX M F c j hd b a r q
structure bK(N P:Φ)(sc:Scope):Prop where
 kind:sc.kind=.function
 co:sc.isCoroutine=false
 gen:sc.isGenerator=false
 nd:N.Nodup
 pre:N.take P.length=P
 par:∀x∈P,sc.names.lookup x=some .local\/sc.names.lookup x=some .cell
 nofree:∀y∈sc.names,y.2≠.free
theorem Qh{kindOf:Str->Option NameKind}{x:Str} : ∀{a:xh}{m:Str->Ω},(∀v,(x,v)∉a)->bindL kindOf a m x=m x
 |[],_,_=>rfl
 |(n,v)::r,m,h=>by
  unfold bindL;rw[Qh λw b=>h w (aJ _ b)];split
  .have:x≠n:=by rintro rfl;exact h v aO
   simp[this]
  .rfl
theorem Qa{kindOf:Str->Option NameKind}{x:Str} : ∀{a:xh}{m:Str->Ω},(∀v,(x,v)∉a)->bindC kindOf a m x=m x
 |[],_,_=>rfl
 |(n,v)::r,m,h=>by
  unfold bindC;rw[Qa λw b=>h w (aJ _ b)];split
  .rfl
  .have:x≠n:=by rintro rfl;exact h v aO
   simp[this]
theorem Pj{kindOf:Str->Option NameKind}{x:Str}{v:Value} : ∀{P:Φ}{vs:Θ}{i:Nat}{m:Str->Ω},P.Nodup->P[i]?=some x->vs[i]?=some v->kindOf x=some .local ->
  bindL kindOf (P.zip vs) m x=some v
 |[],_,_,_,_,h,_,_=>by simp at h
 |_::_,[],_,_,_,_,h,_=>by simp at h
 |p::P,w::vs,0,m,c,b,a,d=>by
  simp at b a;subst b;subst a;show bindL kindOf ((p,w)::P.zip vs) m p=_;unfold bindL;rw[Qh λv e=>(List.nodup_cons.mp c).1 (VX e).1,ZY d];simp
 |p::P,w::vs,i+1,m,c,b,a,d=>by
  show bindL kindOf ((p,w)::P.zip vs) m x=_;unfold bindL;exact Pj (i:=i) (List.nodup_cons.mp c).2 (by simpa using b) (by simpa using a) d
theorem Pn{kindOf:Str->Option NameKind}{x:Str}{v:Value} : ∀{P:Φ}{vs:Θ}{i:Nat}{m:Str->Ω},P.Nodup->P[i]?=some x->vs[i]?=some v->kindOf x≠some .local ->
  bindC kindOf (P.zip vs) m x=some v
 |[],_,_,_,_,h,_,_=>by simp at h
 |_::_,[],_,_,_,_,h,_=>by simp at h
 |p::P,w::vs,0,m,c,b,a,d=>by
  simp at b a;subst b;subst a;show bindC kindOf ((p,w)::P.zip vs) m p=_;unfold bindC;rw[Qa λv e=>(List.nodup_cons.mp c).1 (VX e).1,ZZ d];simp
 |p::P,w::vs,i+1,m,c,b,a,d=>by
  show bindC kindOf ((p,w)::P.zip vs) m x=_;unfold bindC;exact Pn (i:=i) (List.nodup_cons.mp c).2 (by simpa using b) (by simpa using a) d
def start(N:Φ)(vs:Ζ):St:=vs.map some++replicate (N.length-vs.length) none
def MK(CX:eS)(P:Program)(w:World)(K:Frag)(mg:Str->Ω)(base:Heap)(N:Φ)(a:Str)(I:Scope)(f:Addr)(b:Value)(A:Around)(outer:xt)(s:Shared)(H:Hp)(E:XK):Cx where
 prog:=P
 w:=w
 K:=K
 mg:=mg
 base:=base
 A:=A.deeper (envOfC a I s.zs f b)
 N:=N
 s₀:=s
 H₀:=H
 env:=envOfC a I s.zs f b
 outer:=outer
 stack:=envOfC a I s.zs f b::outer
 ex:=[]
 calm:=true
 fn:=λ_=>true
 pn:=[]
 xe:=λe s'=>wpAny (model P w) (A.deeper (envOfC a I s.zs f b)) (leaving (envOfC a I s.zs f b) e) (λ_ c=>CX outer H s E e c) (λd c=>CX outer H s E d c) s'
def WQ{a:Scope}{n:Nat}(h:a.names.lookup x=some .cell):∃c,(cellsFrom n a.names []).lookup x=some c:=by
 have q:=PySem.W.cellsFrom_some a.names n [] (.inl h);exact Option.isSome_iff_exists.mp q
def abj{N:Φ}{g:Str}{C:Value}{d:xt}{G:Shared}
 (S:bK N ps I)(hd:A.handled=none)(l:Mw P w K mg base A d s H)(O:vs.length=ps.length)(r:z5 vs us)
 (x:InCallC s s.zs (bindL (envOfC g I s.zs f C).kindOf (ps.zip us) λ_=>none) (cellsFrom (s.zs+1) I.names []) (bindC (envOfC g I s.zs f C).kindOf (ps.zip us) λ_=>none) G) :
  Inv (MK CX P w K mg base N g I f C A d s H E) [] (start N vs) H G:=by
 have U:ps.length<=N.length:=by have:=ZH List.length S.pre;rw[aY]at this;lia
 obtain⟨D,R,rfl,L⟩:=x.done;have F:∀b:Addr,b∉(MK CX P w K mg base N g I f C A d s H E).ex:=λb z=>absurd (show b∈([] : Ψ)from z) wr;refine⟨⟨l.mod,S.kind,rfl,rfl,aG _,λy z c D j=>?_,λy m=>?_,λy c _ h=>?_,λ_=>hd,Around.frames_deeper l.frames,.inr ⟨rfl,rfl⟩,λb z=>absurd z (F b),l.bs,l.bsz,λb _ _=>F b,λb z=>absurd z (F b),l.funs,l.frf⟩,
  rfl,l.bare,Un.kept L,⟨_,x.toInCall.ns,λi y v D j T=>?_⟩,λy c h=>⟨_,x.cell y c h⟩,l.hok.fresh (aG _),λy c h=>?_,λp t=>absurd (show p∈([] : Δ)from t) wr,l.hok.kept L,?_⟩
 .exact name_of_addr x.apart (PySem.mem_of_lookup D) (PySem.mem_of_lookup j)
 .have m:I.names.lookup y=some .cell\/I.names.lookup y=some .free:=m;rcases m with m|m
  .exact WQ m
  .exact absurd rfl (S.nofree _ (PySem.mem_of_lookup m))
 .exact Y2 (x.above y c (PySem.mem_of_lookup h))
 .have B:i<vs.length:=by
   unfold start at j;by_cases B:i<vs.length
   .exact B
   .rw[aD (by simpa using B)]at j;rw[X1]at j;split at j<;>cases j
  have Q:vs[i]?=some v:=by
   unfold start at j;rw[aF (by simpa using B),aq]at j;cases e:vs[i]? with
   |none=>rw[e]at j;cases j
   |some a=>rw[e]at j;cases j;rfl
  obtain⟨u,J,M⟩:=r.get Q;have t:ps[i]?=some y:=by
   rwa[<- S.pre,List.getElem?_take_of_lt (aR B (WG O))]
  have o:ps.Nodup:=by rw[<- S.pre];exact S.nd.sublist (List.take_sublist _ _)
  refine⟨u,M,?_⟩;rcases S.par y (aC t)with k|k
  .exact .inl ⟨k,Pj o t J k⟩
  .obtain⟨c,e⟩:=WQ (n:=s.zs+1) k;refine .inr ⟨.inl k,c,e,?_⟩;have q:=x.cell y c e;rw[Pn o t J (by show I.names.lookup y≠_;rw[k];decide)]at q;exact q
 .exact l.hok.fresh (Y2 (x.above y c (PySem.mem_of_lookup h)))
 .unfold start;show _=N.length;rw[aA,ak,aN];lia
def C3{d:Str}{g:Arguments}{F kV L C i G X:Value}{R U:Ξ}
 {dQ:Array (Ω)}{N:Φ}(lk:K.lookup f=some ⟨X,U,.func (PySem.W.fnOf name d g body I F kV L C R i G),dQ⟩)(a9:codeIn K i d)(S:bK N ps I)
 (l:∀vs H Q E,sp vs H Q E->vs.length=ps.length)
 (bg:∀(A:Around)(c:xt)(s:Shared)(H:Hp)(vs:Ζ)(Q:VK)(E:XK),dX k (A.deeper (envOfC d I s.zs f i))->sp vs H Q E ->
   ∃t,PSs (MK CX P w K mg base N d I f i A c s H E) body t/\t { nx:=λ_ Y=>Q .non Y,rt:=Q } (start N vs) H) :
  bW P w K mg base CX (k+1) f (PySem.W.fnOf name d g body I F kV L C R i G) ps sp:=by
 refine⟨l,λA c s H O us vs Q E z m hb r D=>?_⟩;have hl:=l _ _ _ _ D;have T:K.In s.heap:=m.mod.kin.keeps λb o e=>(m.bs b o e).1;have Z:s.heap.NoLimit:=m.mod.nolimit.keeps λb o e=>(m.bs b o e).1;have c5:∀y∈ps.zip us,I.names.lookup y.1=some .local\/(I.names.lookup y.1=some .cell/\((cellsFrom (s.zs+1) I.names []).lookup y.1).isSome):=λ⟨n,v⟩ hy=>by
  rcases S.par n (VX hy).1 with q|q
  .exact .inl q
  .exact .inr ⟨q,PySem.W.cellsFrom_some _ _ _ (.inl q)⟩
 refine codeAny_call_function z.depth (T _ _ lk) rfl S.co S.gen rfl (PySem.W.codeRec_of T a9) (hb _ _ _ _ ?_);refine wpAny_newFunctionEnv_cells S.kind c5 λenv he B x=>?_;subst he;refine⟨Z.keeps x.toInCall.keep,codeAny_func ?_⟩;obtain⟨t,ht,hq⟩:=bg A c s H vs Q E (z.deeper _) D;have a:Inv (MK CX P w K mg base N d I f i A c s H E) [] (start N vs) H B:=abj S z.hd m hl r x;refine wpAny_mono (ht [] B (start N vs) H _ a hq) (λfl s' j=>?_) λe s' j=>j;have M:∀{h:St}{Y:Hp}{v:V}{u:Value},Inv (MK CX P w K mg base N d I f i A c s H E) [] h Y s'->z4 v u->Q v Y->CE c P w H s Q u s' :=
  λ{h Y v u}J p q=>⟨v,Y,J.os,J.bare,J.base,J.hok,p,q⟩
 cases fl with
 |ret u =>
  obtain⟨v,h,Y,J,p,q⟩:=j;exact M J p q
 |next =>
  obtain⟨h,Y,J,q⟩:=j;exact M (v:=V.non) (u:=Value.none) J rfl q
 |brk =>
  obtain⟨_,_,_,q⟩:=j;exact False.elim q
 |cont =>
  obtain⟨_,_,_,q⟩:=j;exact False.elim q
section
variable{X:Cx}{x:Str}{p N:Pos}{e:Expr}{es:xw}{t:TA}{id T:String}{r:Ζ->Hp->VK->Prop}
def qr(r:Ζ->Hp->VK->Prop)(t:TA):TE:=λO H Q=>t O H λvs Z=>r vs Z Q
def Ux(k:kW X (.builtin id) r)(i:Gl X x)(g:X.mg x=none)(d:bootBuiltins x=some (.builtin id))(l:PA X (e::es) t)(f:x≠"__name__":=by decide)(n:qV x:=by decide)
 (j:qS X e es:=by rfl)(o:qE X N es:=by rfl):PE X (.Call (.Name x p) (e::es) [] N) (qr r t):=by
 intro U s O H Q I h;refine wpAny_Call_Name_kw (DR I i g d ?_ f n);exact PyProof.Rows.callWith_builtin1 (ah (l N U s O H _ I h) λus a m=>by obtain⟨vs,Z,q,b,c⟩:=m;exact k U a O Z vs us Q q b c) j o
def aaQ(k:kW X (.type T) r)(i:Gl X x)(g:X.mg x=none)(d:bootBuiltins x=some (.type T))(l:PA X (e::es) t)(f:x≠"__name__":=by decide)(n:qV x:=by decide)
 (j:qS X e es:=by rfl)(o:qE X N es:=by rfl):PE X (.Call (.Name x p) (e::es) [] N) (qr r t):=by
 intro U s O H Q I h;refine wpAny_Call_Name_kw (DR I i g d ?_ f n);exact PyProof.Rows.callWith_type1 (ah (l N U s O H _ I h) λus a m=>by obtain⟨vs,Z,q,b,c⟩:=m;exact k U a O Z vs us Q q b c) j o
end
end L2
namespace HT
open PySem PyProof.Rows
def sIx(n d:Nat):xo->Nat
 |none=>d
 |some v=>if v<0 then(v+(n:Int)).toNat else min v.toNat n
def Ey(n d k:Nat):sIx n d (some (k:Int))=min k n:=by
 show(if(k:Int)<0 then((k:Int)+(n:Int)).toNat else min (k:Int).toNat n)=min k n;rw[ZZ (Int.not_lt_of_ge (WZ _)),T2]
def aiJ(n d:Nat)(hd:d<=n)(o:xo):sIx n d o<=n:=by
 cases o with
 |none=>exact hd
 |some v =>
  show(if v<0 then(v+(n:Int)).toNat else min v.toNat n)<=n;by_cases a:v<0
  .rw[ZY a];lia
  .rw[ZZ a];exact Nat.min_le_right _ _
end HT
namespace L2
open PySem PySem.Spec PyProof.Rows
abbrev TO:=St->Hp->(xo->Hp->Prop)->Prop
def PO(X:Cx)(e:Option Expr)(t:TO):Prop :=
 ∀(U:Δ)(s:Shared)(O:St)(H:Hp)(Q:xo->Hp->Prop),Inv X U O H s->t O H Q ->
  wpAny (model X.prog X.w) X.A (evalPart e X.env) (λu a=>∃o Y,Inv X U O Y a/\IsPart u o/\Q o Y) X.xe s
def _f:TO:=λ_ H Q=>Q none H
def KL(t:TE):TO:=λO H Q=>t O H λx Z=>∃i,x=.int i/\Q (some i) Z
def intsAre_of{b:xm} : ∀{a:Θ},z5 (b.map V.int) a->IntsAre a b:=by
 induction b with
 |nil=>intro a r;rw[map_nil]at r;cases r;exact .nil
 |cons n b f =>
  intro a r;rw[map_cons]at r;cases r with
  |cons d c =>
   obtain⟨t,e⟩:=d;subst e;exact .cons n t (f c)
variable{X:Cx}{e:Expr}{te:TE}{lo hi:Option Expr}{tl th:TO}{N p2:Pos}{α:Type}{n:Nat}{U:Δ}{O:St}{H:Hp}{s:Shared}{J ys:Ζ}{l:Addr}
def _Z:PO X none _f:=by
 intro U s O H Q I h;rw[evalPart_none];exact ZT ⟨none,H,I,.none,h⟩
def _d(h:PE X e te):PO X (some e) (KL te):=by
 intro U s O H Q I c;rw[evalPart_some];refine ah (h U s O H _ I c) λu g d=>?_;obtain⟨x,Z,f,a,b⟩:=d;obtain⟨i,rfl,q⟩:=b;obtain⟨t,rfl⟩:=a;exact⟨some i,Z,f,.int i t,q⟩
def SlR(X:Cx)(r:V->xo->xo->Hp->VK->Prop):Prop :=
 ∀(U:Δ)(s:Shared)(O:St)(H:Hp)(x:V)(v b a:Value)(lo hi:xo)(c:Addr)(Q:VK),Inv X U O H s->z4 x v->s.heap.IsSliceOf c b a .none->IsPart b lo->IsPart a hi->r x lo hi H Q ->
  ∃T id,typeLookup (.type T) "__getitem__"=pure (some (.builtin id))/\s.TypeIs v T/\wpAny (model X.prog X.w) X.A (getItem v (.ref c)) (EP X U O Q) X.xe s
def SlR.or{r e:V->xo->xo->Hp->VK->Prop}(h:SlR X r)(j:SlR X e):SlR X (λx lo hi H Q=>r x lo hi H Q\/e x lo hi H Q):=by
 intro U s O H x v b a lo hi c Q I d i g f q;rcases q with q|q
 .exact h U s O H x v b a lo hi c Q I d i g f q
 .exact j U s O H x v b a lo hi c Q I d i g f q
def FV(r:V->xo->xo->Hp->VK->Prop)(te:TE)(tl th:TO):TE:=λO H Q=>te O H λx Z=>tl O Z λl b=>th O b λu a=>r x l u a Q
def _q{r:V->xo->xo->Hp->VK->Prop}(z:SlR X r)(D:PE X e te)(B:PO X lo tl)(t:PO X hi th):PE X (.Subscript e (.Slice lo hi none p2) N) (FV r te tl th):=by
 intro U s O H Q I h;refine Subscript_ (ah (D U s O H _ I h) λv k g=>?_);obtain⟨x,Z,K,m,n⟩:=g;refine wpAny_Slice (ah (B U k O Z _ K n) λf j ⟨l,L,J,p,q2⟩=>ah (t U j O L _ J q2) λd a g=>?_);obtain⟨u,i,G,o,q3⟩:=g;rw[evalPart_none];refine ZT ?_;have F:Inv X U O i { a with heap:=a.heap.push { cls:=.type "slice",data:=.fields #[f,d,.none] } }:=G.kept (t':=a.toks) λb M q=>aH _ q;obtain⟨T,id,E,y,C⟩:=z U { a with heap:=a.heap.push { cls:=.type "slice",data:=.fields #[f,d,.none] } } O i x v f d l u a.zs Q F m (Heap.IsSliceOf.new ..) p o q3;show wpAny (model X.prog X.w) X.A (subscriptTail e (.Slice lo hi none p2) v (.ref a.zs)) (EP X U O Q) X.xe { a with heap:=a.heap.push { cls:=.type "slice",data:=.fields #[f,d,.none] } };exact tail_any (ops:=[.ref a.zs,v]) y E C (by with_unfolding_all rfl)
def h7(J:Ζ)(lo hi:xo):Ζ:=(J.drop (HT.sIx J.length 0 lo)).take (HT.sIx J.length J.length hi-HT.sIx J.length 0 lo)
def W4(J:Ζ)(lo hi:xo):(h7 J lo hi).length<=J.length:=by
 unfold h7;rw[aY,TW];lia
def c6(n:Nat)(i:Int):xC:=if 0<=i then(if i<n then some i.toNat else none)else if -(n:Int)<=i then some (i+n).toNat else none
def dv(J:List α)(i:Int):Option α:=(c6 J.length i).bind λj=>J[j]?
def EX{i:Int}{j:Nat}(h:c6 n i=some j):seqIndex? i n=some j/\j<n/\-(n:Int)<=i/\i<n:=by
 unfold c6 at h;by_cases b:0<=i
 .rw[ZY b]at h;by_cases a:i<n
  .rw[ZY a]at h;have e:i.toNat=j:=Option.some.inj h;exact⟨by rw[seqIndex_of b a,e],by lia,by lia,a⟩
  .rw[ZZ a]at h;cases h
 .rw[ZZ b]at h;by_cases a : -(n:Int)<=i
  .rw[ZY a]at h;have e:(i+n).toNat=j:=Option.some.inj h;exact⟨by rw[seqIndex_neg (QY b) a,e],by lia,a,by lia⟩
  .rw[ZZ a]at h;cases h
def Tw{J:List α}{i:Int}{v:α}(h:dv J i=some v):∃j,seqIndex? i J.length=some j/\J[j]?=some v/\j<J.length/\-(J.length:Int)<=i/\i<J.length:=by
 unfold dv at h;cases e:c6 J.length i with
 |none=>rw[e]at h;cases h
 |some j =>
  rw[e]at h;obtain⟨d,c,b,a⟩:=EX e;exact⟨j,d,h,c,b,a⟩
def wI(b:Expr):Prop:=∀o i,subscripted b false o i=operate [o,i] (getItem o i)
def IxR(X:Cx)(r:R2):Prop :=
 ∀(b a:Expr)(U:Δ)(s:Shared)(O:St)(H:Hp)(x y:V)(v u:Value)(Q:VK),Inv X U O H s->z4 x v->z4 y u->r x y H Q ->
  subscripted a false v u=operate [v,u] (getItem v u)->wpAny (model X.prog X.w) X.A (subscriptTail b a v u) (EP X U O Q) X.xe s
def MtR(X:Cx)(id:String)(r:V->Ζ->Hp->VK->Prop):Prop :=
 ∀(U:Δ)(s:Shared)(O:St)(H:Hp)(x:V)(J:Ζ)(v:Value)(a:Θ)(Q:VK),Inv X U O H s->z4 x v->z5 J a->r x J H Q ->
  wpAny (model X.prog X.w) X.A (call (.builtin id) (v::a)) (EP X U O Q) X.xe s
section
variable{X:Cx}{a b:Expr}{ta tb:TE}{N:Pos}
def IxR.or{r c:R2}(h:IxR X r)(g:IxR X c):IxR X (λx y H Q=>r x y H Q\/c x y H Q):=by
 intro f e U s O H x y v u Q I b a q d;rcases q with q|q
 .exact h f e U s O H x y v u Q I b a q d
 .exact g f e U s O H x y v u Q I b a q d
def Qj{r:R2}(g:IxR X r)(j:PE X a ta)(i:PE X b tb)(f:wI b):PE X (.Subscript a b N) (io r ta tb):=by
 intro U s O H Q I h;exact Subscript_ (ov j i I h λv u c x y l k e d q=>g a b U c O l x y v u Q k e d q (f _ _))
def LO(K:Frag):R2:=λx y H Q=>∃p J i v,x=.ref p/\y=.int i/\SqL K H p J/\dv J i=some v/\Q v H
def Lm(K:Frag):R2:=λx y H Q=>∃p J i v,x=.ref p/\y=.int i/\SqT K H p J/\dv J i=some v/\Q v H
def Kb:R2:=λx y H Q=>∃z i c,x=.str z/\y=.int i/\z.length<=sizeLine/\dv z.cps.toList i=some c/\Q (.str ⟨#[c]⟩) H
def B_:IxR X (LO X.K):=by
 intro P N U s O H x y v u Q I n m h f;obtain⟨p,J,i,z,rfl,rfl,o,B,q⟩:=h;cases n;obtain⟨t,rfl⟩:=m;obtain⟨d,r,c,G⟩:=I.list o;obtain⟨j,a,E,M,D,C⟩:=Tw B;obtain⟨w,g,F⟩:=r.get E;have A:=r.length;have L:=Az;have k:EP X U O Q w s:=⟨z,H,I,F,q⟩;by_cases b:0<=i
 .have e:i.toNat=j:=by
   rw[seqIndex_of b C]at a;exact Option.some.inj a
  exact item_listR c.isList b wp (by rw[e];simpa using g) k f
 .have e:(i+(d.toArray.size:Int)).toNat=j:=by
   rw[seqIndex_neg (QY b) D]at a;rw[aX,<- A];exact Option.some.inj a
  exact subscriptTail_builtinR (x:=w) c.isList.typeIs slot_list_getitem.lookup
   (wpAny_getItem_list_neg (Q:=λr l=>r=w/\EP X U O Q r l) c.isList (QY b) (by rw[aX]<;>lia) wp (by rw[e];simpa using g) ⟨rfl,k⟩) f
def Po:IxR X (Lm X.K):=by
 intro M L U s O H x y v u Q I d c h f;obtain⟨p,J,i,z,rfl,rfl,g,l,q⟩:=h;cases d;obtain⟨t,rfl⟩:=c;obtain⟨e,r,a,B⟩:=I.tuple g;obtain⟨j,G,m,F,E,D⟩:=Tw l;obtain⟨w,n,o⟩:=r.get m;have k:=r.length;have C:=Az;have A:EP X U O Q w s:=⟨z,H,I,o,q⟩;exact subscriptTail_builtinR (x:=w) a.typeIs slot_tuple_getitem.lookup
  (getItem_tuple (j:=j) (Q:=λr b=>r=w/\EP X U O Q r b) a wp wp (by rwa[aX,<- k]) (by simpa using n) ⟨rfl,A⟩) f
def SL:IxR X Kb:=by
 intro C B U s O H x y v u Q I d b h e;obtain⟨z,i,c,rfl,rfl,r,g,q⟩:=h;obtain⟨t,rfl⟩:=d;obtain⟨p,rfl⟩:=b;obtain⟨j,a,m,A,l,k⟩:=Tw g;have f:z.cps.toList.length=z.length:=by simp[Str.length]
 rw[f]at a l k;have w:=Az;exact tail_any (typeIs_str s z t) slot_str_getitem.lookup (getItem_str (c:=c) (by
  have o:decide (i < -(2^63:Int))=false:=Zp wp;have n:decide (i>=2^63)=false:=Zp wp;rw[o,n,Bool.or_false]) (by rw[a];simpa using m) ⟨.str ⟨#[c]⟩,H,I.tok _,⟨_,rfl⟩,q⟩) e
def YB(a:Θ)(n j:Nat)(u:Value):Obj.mapSeq (·.setIfInBounds j u) { cls:=.type "list",data:=.seq a.toArray n }={ cls:=.type "list",data:=.seq (a.set j u).toArray n }:=by
 simp[Obj.mapSeq]
def Inv.lst{U:Δ}{O:St}{H:Hp}{s:Shared}{p:Addr}{J:Ζ}(I:Inv X U O H s)(h:H p=some (.lst J)) :
  ∃(a:Θ)(n:Nat),z5 J a/\s.heap.get? p=some { cls:=.type "list",data:=.seq a.toArray n }/\J.length<=sizeLine:=by
 obtain⟨z,a,n,r,e⟩:=I.hok p _ h;exact⟨a,n,r,e,z⟩
def Inv.lstUpd{p:Addr}{c a:Θ}{d:Nat}{f:Obj->Obj}(I:Inv X U O H s)(h:H p=some (.lst J))
 (k:s.heap.get? p=some { cls:=.type "list",data:=.seq c.toArray n })(g:f { cls:=.type "list",data:=.seq c.toArray n }={ cls:=.type "list",data:=.seq a.toArray d })(r:z5 ys a)(j:ys.length<=sizeLine)(t:Nat) :
  Inv X U O (upd H p (.lst ys)) { s with heap:=s.heap.update p f,toks:=t }:=by
 have e:(s.heap.update p f).get? p=some { cls:=.type "list",data:=.seq a.toArray d }:=by
  rw[Heap.get?_update_self f k (by rw[g]<;>rfl),g]
 refine I.write (x:=p) (e:=p) (by rw[h];trivial) (.inl rfl) (λb u l q=>(Heap.get?_update_other _ _ (Ne.symm l)).trans q) ⟨_,e⟩ ?_;exact⟨j,a,d,r,e⟩
def MS:V->V->V->Hp->(Hp->Prop)->Prop:=λo i v H Q=>∃p J k j,o=.ref p/\i=.int k/\H p=some (.lst J)/\c6 J.length k=some j/\Q (upd H p (.lst (J.set j v)))
def set_list:B3 X MS:=by
 intro U s O H o i v C D u Q I x y w h;obtain⟨p,J,k,j,rfl,rfl,g,z,q⟩:=h;cases x;obtain⟨t,rfl⟩:=y;obtain⟨a,n,r,d,E⟩:=I.lst g;obtain⟨b,G,B,A⟩:=EX z;have e:=r.length;have F:=Az;have m:Inv X U O (upd H p (.lst (J.set j v))) { s with heap:=s.heap.update p (Obj.mapSeq (·.setIfInBounds j u)) } :=
  I.lstUpd g d (YB a n j u) (r.set w j) (by rwa[VT]) s.toks
 by_cases c:0<=k
 .have f:k.toNat=j:=by
   rw[seqIndex_of c A]at b;exact Option.some.inj b
  exact PySem.W.ki_setAt d c wp (by rwa[aX,<- e]) (by rw[f];exact⟨_,m,q⟩)
 .have f:(k+(a.toArray.size:Int)).toNat=j:=by
   rw[seqIndex_neg (QY c) B]at b;rw[aX,<- e];exact Option.some.inj b
  exact PySem.W.ki_setBack d (QY c) (by rwa[aX,<- e]) wp (by rw[f];exact⟨_,m,q⟩)
def TV(lo hi:xo)(n:Nat):(sliceBounds lo hi none n).1=((HT.sIx n 0 lo:Nat):Int)/\(sliceBounds lo hi none n).2.1=((HT.sIx n n hi:Nat):Int)/\(sliceBounds lo hi none n).2.2=1:=by
 refine⟨?_,?_,rfl⟩
 .cases lo with
  |none=>simp[sliceBounds,HT.sIx]
  |some i =>
   simp only[sliceBounds,HT.sIx,getD_none,show(1:Int)>0 by decide,if_true];by_cases h:i<0
   .simp only[h,if_true]<;>lia
   .simp only[h,if_false]<;>lia
 .cases hi with
  |none=>simp[sliceBounds,HT.sIx]
  |some i =>
   simp only[sliceBounds,HT.sIx,getD_none,show(1:Int)>0 by decide,if_true];by_cases h:i<0
   .simp only[h,if_true]<;>lia
   .simp only[h,if_false]<;>lia
def Oe(a:Θ)(lo hi:xo):slicePick a.toArray lo hi none=((a.drop (HT.sIx a.length 0 lo)).take (HT.sIx a.length a.length hi-HT.sIx a.length 0 lo)).toArray:=by
 obtain⟨d,c,b⟩:=TV lo hi a.toArray.size;unfold slicePick;rw[d,c,b];simp only[sliceRange_one,pick_run,aX]<;>rfl
def Kt(K:Frag):V->xo->xo->Hp->VK->Prop:=λx lo hi H Q=>∃a J,x=.ref a/\SqL K H a J/\∀p,H p=none->Q (.ref p) (upd H p (.lst (h7 J lo hi)))
def Vc:SlR X (Kt X.K):=by
 intro U s O H x v n m lo hi p Q I d k f e h;obtain⟨a,J,rfl,j,q⟩:=h;cases d;obtain⟨g,r,c,i⟩:=I.list j;have l:=r.length;refine⟨"list",_,slot_list_getitem.lookup,c.isList.typeIs,?_⟩;refine wpAny_getItem_list_slice c.isList k f e .none wr ?_ (by rw[aX]<;>lia);rw[Oe,<- l];refine⟨.ref s.zs,_,I.laid (t':=s.toks) (o:=.lst (h7 J lo hi)) (λb t q=>aH _ q) (aG _) ?_,rfl,q _ (I.hok.fresh (aG _))⟩;exact⟨aL (W4 J lo hi) i,_,0,(r.drop (HT.sIx J.length 0 lo)).take (HT.sIx J.length J.length hi-HT.sIx J.length 0 lo),aW _ rfl⟩
def G0:V->V->Bool
 |.non,.non=>true
 |.bl a,.bl b=>a==b
 |.bl a,.int b=>(if a then 1 else 0)==b
 |.int a,.bl b=>a==(if b then 1 else 0)
 |.int a,.int b=>a==b
 |.str a,.str b=>a==b
 |_,_=>false
def Qw:kW X (.builtin "len") (λJ H Q=>∃p ys,J=[.ref p]/\(SqL X.K H p ys\/SqT X.K H p ys)/\Q (.int ys.length) H):=by
 intro U s O H J i Q I r h;obtain⟨p,ys,rfl,a,q⟩:=h;obtain⟨u,rfl,f⟩:=vals1 r;cases f;have j:=Az;rcases a with a|a
 .obtain⟨d,b,c,g⟩:=I.list a;have e:=b.length;exact Calls.call_len_list c.isList (by simp only[aX]<;>lia) ⟨.int ys.length,H,I.tok _,⟨s.toks+1,by rw[aX,e]⟩,q⟩
 .obtain⟨d,b,c,g⟩:=I.tuple a;have e:=b.length;exact len_tuple c (by simp only[aX]<;>lia) ⟨.int ys.length,H,I.tok _,⟨s.toks+1,by rw[aX,e]⟩,q⟩
def Sh:kW X (.builtin "len") (λJ H Q=>∃z,J=[.str z]/\z.length<=sizeLine/\Q (.int z.length) H):=by
 intro U s O H J a Q I r h;obtain⟨z,rfl,b,q⟩:=h;obtain⟨u,rfl,t,rfl⟩:=vals1 r;have c:=Az;exact len_str wp ⟨.int z.length,H,I.tok _,⟨_,rfl⟩,q⟩
def Rv:kW X (.type "list") (λJ H Q=>∃p ys,J=[.ref p]/\(SqL X.K H p ys\/SqT X.K H p ys)/\∀l,H l=none->Q (.ref l) (upd H l (.lst ys))):=by
 intro U s O H J A Q I r h;obtain⟨p,ys,rfl,j,q⟩:=h;obtain⟨u,rfl,y⟩:=vals1 r;cases y;have x:∀(a:Θ),z5 ys a->ys.length<=sizeLine->∀(c:Heap)(f:Nat),(∀b t,s.heap.get? b=some t->c.get? b=some t) ->
   c.get? s.zs=some { cls:=.type "list",dict:=none,data:=.seq a.toArray f,slots:=#[] }->EP X U O Q (.ref s.zs) { s with heap:=c }:=λa d i c f g e =>
  ⟨.ref s.zs,_,I.laid (t':=s.toks) g (aG _) (show gG X.prog X.w _ c _ (.lst ys)from⟨i,a,f,d,e⟩),rfl,q _ (I.hok.fresh (aG _))⟩
 rcases j with j|j
 .obtain⟨a,d,k,i⟩:=I.list j;have z:=d.length;obtain⟨o,m,hc,n,hd⟩:=k.isList;exact call_list_seq p (.inl rfl) m hc hd (λc f g e=>x a d i c f g e) (by simp only[aX]<;>lia)
 .obtain⟨a,d,k,i⟩:=I.tuple j;have z:=d.length;obtain⟨o,m,hc,n,hd⟩:=k;exact call_list_seq p (.inr rfl) m hc hd (λc f g e=>x a d i c f g e) (by simp only[aX]<;>lia)
def qp(K:Frag)(T:String)(x:V)(H:Hp):Prop:=match x with
 |.str _=>T="str"
 |.int _=>T="int"
 |.ref p=>(T="list"/\∃J,SqL K H p J)\/(T="tuple"/\∃o,K.lookup p=some o/\o.cls=.type "tuple"/\o.dict=none) \/
   (T="dict"/\(∃a,H p=some (.dK a)))\/(T="set"/\∃S n,H p=some (.set S n))
 |_=>False
def Pi{T:String}{x:V}{v:Value}(I:Inv X U O H s)(r:z4 x v)(f:qp X.K T x H) :
  s.TypeIs v T/\∀a,v=.ref a->∃j,s.heap.get? a=some j/\j.dict=none:=by
 cases x with
 |str z =>
  obtain⟨t,rfl⟩:=r;cases(show T="str" from f);exact⟨typeIs_str s z t,λ_ e=>nomatch e⟩
 |int i =>
  obtain⟨t,rfl⟩:=r;cases(show T="int" from f);exact⟨typeIs_int s i t,λ_ e=>nomatch e⟩
 |ref p =>
  cases r;rcases f with⟨rfl,J,m⟩|⟨rfl,o,b,hc,hd⟩|⟨rfl,b⟩|⟨rfl,S,n,b⟩
  .obtain⟨l,_,h,_⟩:=I.list m;refine⟨h.isList.typeIs,λa e=>?_⟩;cases e;obtain⟨o,n,e,c,hd,_⟩:=h;exact⟨o,e,hd⟩
  .refine⟨⟨o,I.kIn p o b,hc⟩,λa e=>?_⟩;cases e;exact⟨o,I.kIn _ o b,hd⟩
  .have z:∃o,s.heap.get? p=some o/\o.ExactDict:=by
    obtain⟨k,b⟩:=b;obtain⟨_,_,_,_,o,_,_,e,d,_⟩:=I.hok p _ b;exact⟨o,e,d⟩
   obtain⟨o,e,d⟩:=z;refine⟨⟨o,e,d.1⟩,λa g=>?_⟩;cases g;exact⟨o,e,d.2.1⟩
  .obtain⟨o,_,_,_,e,d,_⟩:=I.hok p _ b;refine⟨⟨o,e,d.1⟩,λa g=>?_⟩;cases g;exact⟨o,e,d.2.1⟩
 |_=>exact False.elim f
def F3(K:Frag)(T:String)(r:V->Ζ->Hp->VK->Prop)(a:TE)(t:TA):TE:=λO H Q=>a O H λx Z=>qp K T x Z/\t O Z λJ b=>r x J b Q
variable{o e:Expr}{es:xw}{to:TE}{t:TA}{name:Str}{ai af:Pos}{T id:String}{r:V->Ζ->Hp->VK->Prop}
abbrev ze(a b:Pos):Prop:=(a.endLine==b.line)=true
def ph(n:PlainAttrs T)(slot:Slot T name id)(q:typeOf (.builtin id)=pure (.type "method_descriptor"))(B:MtR X id r)(A:PE X o to)(C:PA X (e::es) t)
 (u:zo X o name:=by rfl)
 (p:((backTo af (starEach (e::es) X.env)).all (λx=>!x.1)&&(backToKw af (keywordEach [] X.env)).all (λx=>x.1.isSome)
   && decide ((e::es).length+([] : wq).length+(if([] : wq).isEmpty then 0 else 1)<30))=true:=by rfl)
 (w:ze ai af:=by rfl)(z:qS X e es:=by rfl)(y:qE X af es:=by rfl) :
  PE X (.Call (.Attribute o name ai) (e::es) [] af) (F3 X.K T r to t):=by
 intro U s O H Q I h;refine wpAny_Call_method_late u p w rfl (ah (A U s O H _ I h) λv k a=>?_);obtain⟨x,Z,d,b,i,m⟩:=a;obtain⟨E,D⟩:=Pi d b i;refine⟨T,id,n,slot,q,E,D,?_⟩;have c:=C af U k O Z _ d m;rw[z]at c ⊢;refine Calls.callWith_builtin (by show(false || (backTo af (starEach es X.env)).any (·.1))=false;rw[y]<;>rfl) (Calls.evalArgs_plain ?_);exact ah c λg j a=>by obtain⟨f,G,F,l,q2⟩:=a;exact B U j O G x f v g Q F b l q2

end
def mj(X:Cx)(id:String)(r:V->Ζ->Hp->VK->Prop):Prop :=
 ∀(U:Δ)(s:Shared)(O:St)(H:Hp)(x:V)(J:Ζ)(v:Value)(a:Θ)(Q:VK),Inv X U O H s->z4 x v->z5 J a->r x J H Q ->
  wpAny (model X.prog X.w) X.A (call (.builtin id) (v::a)) (EP X U O Q) X.xe s
def z5.one:∀{x:V}{a:Θ},z5 [x] a->∃u,a=[u]/\z4 x u
 |_,_,.cons r .nil=>⟨_,rfl,r⟩
def z5.two{x y:V}{a:Θ}(h:z5 [x,y] a):∃u v,a=[u,v]/\z4 x u/\z4 y v:=by
 cases h with|cons r t=>cases t with|cons q t=>cases t;exact⟨_,_,rfl,r,q⟩
theorem z5.rep{J:Ζ}{a:Θ}(h:z5 J a):∀k:Nat,z5 (replicate k J).flatten (replicate k a).flatten
 |0=>.nil
 |k+1=>by
  rw[replicate_succ,replicate_succ,flatten_cons,flatten_cons];exact z5.append h (z5.rep h k)
theorem foldl_rep(a:Θ):∀(k:Nat)(b:Θ),
  List.foldl (λd c=>d++c) b.toArray (replicate k a.toArray)=(b++(replicate k a).flatten).toArray
 |0,b=>by simp
 |k+1,b=>by
  have e:b.toArray++a.toArray=(b++a).toArray:=by simp
  have f:(b++a)++(replicate k a).flatten=b++(replicate (k+1) a).flatten:=by
   rw[replicate_succ,flatten_cons,WV]
  rw[<- f,<- foldl_rep a k (b++a),<- e,replicate_succ,foldl_cons]
def Inv.lset{a its':Θ}{f:xI->xI}{c:Nat}(I:Inv X U O H s)(k:H l=some (.lst J))
 (e:s.heap.get? l=some { cls:=.type "list",data:=.seq a.toArray n })(i:f a.toArray=its'.toArray)(g:z5 ys its')(d:ys.length<=sizeLine) :
  Inv X U O (upd H l (.lst ys)) { s with heap:=s.heap.update l (Obj.mapSeq f),toks:=c }:=by
 have q:=PySem.IsL.update e f;rw[i]at q;refine I.write (x:=l) (e:=l) (by rw[k];exact trivial) (.inl rfl) (λm u j h=>(Heap.get?_update_other s.heap (Obj.mapSeq f) (Ne.symm j)).trans h) ⟨_,q⟩ ?_;exact⟨d,its',_,g,q⟩
def Inv.lnew{its:Θ}{t':Nat}(I:Inv X U O H s)(c:z5 ys its)(b:ys.length<=sizeLine) :
  Inv X U O (upd H s.zs (.lst ys)) { s with heap:=s.heap.push { cls:=.type "list",data:=.seq its.toArray },toks:=t' } :=
 I.laid (λ_ _ q=>aH _ q) (aG _) ⟨b,its,0,c,aW _ rfl⟩
def Inv.fresh(I:Inv X U O H s):H s.zs=none:=I.hok.fresh (aG _)
def Inv.lstM(I:Inv X U O H s)(b:H l=some (.lst J)):J.length<=sizeLine/\∃(a:Θ)(n:Nat),z5 J a/\J.length=a.length/\s.heap.get? l=some { cls:=.type "list",data:=.seq a.toArray n }:=by
 obtain⟨z,a,n,r,e⟩:=I.hok l _ b;exact⟨z,a,n,r,r.length,e⟩
def abQ(h:n<=sizeLine):Builtin.List.listTooLong n=false:=by
 unfold Builtin.List.listTooLong;exact Zp (JY h)
def VM:V->Ζ->Hp->VK->Prop:=λx a H Q=>∃l J y,x=.ref l/\a=[y]/\H l=some (.lst J)/\J.length<sizeLine/\Q .non (upd H l (.lst (J++[y])))
def PJ:mj X "list.append" VM:=by
 intro U s O H x g v i Q I c d h;obtain⟨l,J,y,rfl,rfl,b,j,q⟩:=h;cases c;obtain⟨u,rfl,f⟩:=d.one;obtain⟨z,a,n,r,k,e⟩:=I.lstM b;refine call_meets F.slot_list_append ⟨_,e,rfl⟩ F.entry_list_append (F.args_list_append_2 _ _) (PySem.list_append l a.toArray n u (by rw[aX];lia)) ⟨e,?_⟩;refine⟨.non,_,I.lset (its':=a++[u]) b e wr (r.append (.cons f .nil)) ?_,rfl,q⟩;rwa[aA,length_singleton]
def LJ:R2:=λx y H Q=>∃l b J a,x=.ref l/\y=.ref b/\H l=some (.lst J)/\H b=some (.lst a)/\J.length+a.length<=sizeLine/\∀p,H p=none->Q (.ref p) (upd H p (.lst (J++a)))
def Pw:OpR X (binaryOp .Add) LJ:=by
 intro U s O H x y v u Q I f d h;obtain⟨l,b,J,p,rfl,rfl,j,k,A,q⟩:=h;cases f;cases d;obtain⟨z,a,n,r,B,e⟩:=I.lstM j;obtain⟨t,c,w,g,i,o⟩:=I.lstM k;refine PySem.P.add_list e o ?_ (by rw[aX,aX];lia);have m:a.toArray++c.toArray=(a++c).toArray:=by simp
 rw[m];exact⟨.ref _,_,I.lnew (t':=s.toks) (r.append g) (by rw[aA];omega),rfl,q _ I.fresh⟩
def HK:R2:=λx y H Q=>∃l k J,x=.ref l/\y=.int k/\H l=some (.lst J)/\-(2^63)<=k/\k<2^63/\J.length*k.toNat<=sizeLine /\
 ∀p,H p=none->Q (.ref p) (upd H p (.lst (replicate k.toNat J).flatten))
def len_rep(J:List α)(k:Nat):(replicate k J).flatten.length=k*J.length:=by
 induction k with
 |zero=>simp
 |succ k a=>rw[replicate_succ,flatten_cons,aA,a,Nat.succ_mul,Nat.add_comm]
def P5:OpR X (binaryOp .Mult) HK:=by
 intro U s O H x y v u Q I i g h;obtain⟨l,k,J,rfl,rfl,B,D,C,L,q⟩:=h;cases i;obtain⟨t,rfl⟩:=g;obtain⟨z,b,n,r,A,e⟩:=I.lstM B;have G:b.toArray.size*k.toNat<=sizeLine:=by rwa[aX,<- A]
 have j:¬b.toArray.size*k.toNat>(2^63-1)/8:=by
  have:(sizeLine:Nat)<=(2^63-1)/8:=by decide
  lia
 have p:¬(!Builtin.List.listFitsIndex k)=true:=by
  rw[fitsIndex_both D C];exact bw
 have w:¬Builtin.List.listTooLong (b.toArray.size*k.toNat)=true:=by
  rw[abQ G];exact bw
 have o:List.foldl (λd c=>d++c) #[] (replicate (if b.toArray.isEmpty=true then 0 else k.toNat) b.toArray)=(replicate k.toNat b).flatten.toArray:=by
  have E:∀m:Nat,List.foldl (λd c=>d++c) #[] (replicate m b.toArray)=(replicate m b).flatten.toArray:=λm=>by
   have:=foldl_rep b m [];rw[List.nil_append]at this;exact this
  rw[E];cases b with
  |nil=>simp
  |cons a K=>rw[ZZ wr]
 refine wpAny_binaryOp_repeat_ref (T:="list") (U:="int") wf ⟨_,e,rfl⟩ (λf=>typeIs_int f k t) noFill_list_mul F.fills_int_mul F.slot_int_rmul repeat_list F.slot_int_index.lookup
  (call_meets F.slot_int_rmul (typeIs_int s k t) F.entry_int_rmul (F.args_int_rmul_2 _ _) (int___rmul___int_list k t l b.toArray n)
   ⟨e,rfl,⟨_,e,rfl⟩,call_meets F.slot_list_mul ⟨_,e,rfl⟩ F.entry_list_mul (F.args_list_mul_2 _ _) (AutoListH.list___mul___list_int_3 l b.toArray n k t p j w) ⟨e,?_⟩⟩)
 rw[o];exact⟨.ref _,_,I.lnew (t':=s.toks) (r.rep k.toNat) (by rwa[len_rep,JU]),rfl,q _ I.fresh⟩
end L2
namespace Att
open PySem PySem.W PySem.Calls PyProof.Rows
def Jm{P:Params}{h:Heap} : ∀(c:xm)(d:Θ),WellAll P h d (c.map WData.int)->IntsAre d c:=by
 intro c
 induction c with
 |nil =>
  intro d w;rw[map_nil]at w;cases w;exact .nil
 |cons n c e =>
  intro d w;rw[map_cons]at w;cases w with
  |cons a b =>
   cases a;exact .cons _ _ (e _ b)
variable{l:OpenLaw}
def aa9{n:Nat}(u:l.most=some n){P:Params}{h:Heap}{b:List WData}{i:Θ}
 (j:l.row.toRowW.claim.pre b)(p:WellAll P h i b) :
  ∃a g c,i=[Value.ref a]/\b=[WData.list (c.map WData.int)]/\h.get? a=some { cls:=.type "list",data:=.seq g.toArray }/\IntsAre g c/\c.length<=n:=by
 have v:WShape.hasAll [] b [.list .int]:=(pre_splitW j).1;have hc:l.pre.holds [] { args:=b }:=(pre_splitW j).2;obtain⟨d,r,rfl,y,x⟩:=hasAllW_cons v;obtain rfl:=hasAllW_nil x;obtain⟨J,rfl,w⟩:=hasW_list y;obtain⟨c,rfl⟩:=items_int w;have z:c.length<=n:=by
  unfold OpenLaw.pre at hc;have f:(WTm.not (.lt (.lit (.int (n:Int))) (.len (.arg 0)))).holds [] { args:=[.list (c.map .int)] }:=by
   have f:=(holds_andW hc).1;rw[u]at f;exact f
  have e:=condW_of f (w_not (w_lt w_lit (w_len_list (w_arg rfl))));rw[ak]at e;refine VS λq=>?_;have o:(n:Int)<((c.length:Nat):Int):=by omega
  first
   |(rw[Zs o]at e;exact absurd e wf)
   |(simp at e;omega)
 cases p with
 |cons m k =>
  cases k;cases m with
  |list t s=>exact⟨_,_,c,rfl,rfl,t,Jm c _ s,z⟩
def aa6(l:OpenLaw)(a:List WData):l.row.toRowW.claim.post a (.bool true) a=true :=
 postW_of (r:=l.row.toRowW) (X:=(true==true))
  (show WShape.has [] (.bool true) .bool=true by first|rfl|decide|simp[WShape.has,WShape.arms,WShape.armsAll])
  (show(WTm.eq .res (.lit (.bool true))).value [] { args:=a,res:=some (.bool true),after:=a }=some (.bool (true==true))from w_eq_bool (w_res rfl) w_lit) rfl
def Jg{n:Nat}{q:Program}{e:Φ}{z:(Str->Ω)->Heap->Prop}{y:World->Heap->Prop}{d:DefRec}
 (F:l.most=some n)(B:d.params.defaults=[])
 (call:∀(w:World)(c b:Shared)(k s:Str->Ω)(h:Addr)(o:Obj)(p m t:Value)(a:Addr)(g:Θ)(j:xm),
   Ground q e [] z w c k s b.heap->y w b.heap ->
   b.heap.get? h=some o->o.data=.func (docDef d.name d.params d.body d.scope p m t)->b.heap.CodeRec m d.name->k d.name=some (.ref h) ->
   b.heap.get? a=some { cls:=.type "list",data:=.seq g.toArray }->IntsAre g j->j.length<=n->b.gens = #[] ->
   codeAny (model l.prog w) callerA (.call (.ref h) ⟨[.ref a],[]⟩) (λr i=>r=.ok (.ret (.bool true))/\OldK b.heap i.heap/\i.os=b.os/\AllBare i.gens) b) :
  WalkO q e z y l.row.toRowW d [] (λf g=>PySem.call f g):=by
 intro w c b k s G Y h o p m t Q kV E hd S v K J x U V P u C A I;obtain rfl:Q=.none:=Dflts.none v B;obtain rfl:kV=.none:=Dflts.noKw v;obtain⟨a,g,j,rfl,rfl,O,R,T⟩:=aa9 F P A;refine enter_call (codeAny_mono (call w c b k s h o p m t a g j G Y E (fd_plain hd) S K O R T J) λr i D=>?_);obtain⟨rfl,N,M,L⟩:=D;exact⟨.inl ⟨.bool true,.bool true,[],rfl,λ_=>rfl,.bool true,aa6 l _,λ_=>⟨List.Pairwise.nil,λ_ H=>(nomatch H)⟩⟩,N,M,L⟩
end Att
namespace L2
open PySem PySem.Spec PyProof.Rows
theorem Ca:∀{a:Θ}{b:xm},IntsAre a b->z5 (b.map V.int) a
 |_,_,.nil=>.nil
 |_,_,.cons n t h=>.cons ⟨t,rfl⟩ (Ca h)
def Only(H:Hp):Prop:=∀b,H b=none\/∃o J,H b=some (.frz o (.lst J))
def acI{P:Program}{w:World}{K:Frag}{p G:Str->Ω}{CX:eS}{k:Nat}{L a:Addr}{X:FuncData}{x:Str}{O:Sp}{c:Shared}{i:Θ}{l:xm}
 (KX:K.In c.heap)(dt:c.heap.Ns mainGlobals p)(f:c.heap.Ns builtinsNs G)(j1:∀x:Str,x≠"__name__"->G x=bootBuiltins x)(iO:c.heap.NoLimit)(hg:c.gens = #[])
 (D:c.heap.get? a=some { cls:=.type "list",data:=.seq i.toArray })(T:IntsAre i l)(S:l.length<=sizeLine)(hr:dX k callerA)
 (F:∀base:Heap,K.In base->base.Ns mainGlobals p->bW P w K p base CX k L X [x] O)(gu:∀(s:Shared)(u:Value),BindsTo s X ⟨[u],[]⟩ [(x,u)])
 (eB:∀H:Hp,Only H->SqL K H a (l.map V.int)->O [.ref a] H (λv _=>v=.bl true) λ_ _ _=>False)
 (kK:∀H e g,CX [] H c (λ_ _ _=>False) e g->False) :
  codeAny (model P w) callerA (.call (.ref L) ⟨[.ref a],[]⟩) (λr g=>r=.ok (.ret (.bool true))/\OldK c.heap g.heap/\g.os=c.os/\AllBare g.gens) c:=by
 have Q:=Ca T;have iE:=T.length

 have core:∀H:Hp,Only H->SqL K H a (l.map V.int)->HOk P w H c.heap->(∀b,H b≠none->b=a)->(H a≠none->K.lookup a=none) ->
   codeAny (model P w) callerA (.call (.ref L) ⟨[.ref a],[]⟩) (λr g=>r=.ok (.ret (.bool true))/\OldK c.heap g.heap/\g.os=c.os/\AllBare g.gens) c:=by
  intro H U hS y W hK;have ce:∀{b:Addr}{o:Obj},c.heap.get? b=some o->H b=none->(Dm c.heap H).get? b=some o:=λe n=>Wq e n;have f6:∀{b:Addr}{o:Obj}{A:Array DictEntry}{B:Nat},c.heap.get? b=some o->o.data=.dict A B->H b=none:=λ{b o A B}e d=>by
   cases q:H b with
   |none=>rfl
   |some u =>
    have M:b=a:=W b (by rw[q];simp);subst M;rw[D]at e;cases e;have d':Data.seq i.toArray _=Data.dict A B:=d;cases d'
  have E:∀{b:Addr}{m:Str->Ω},c.heap.Ns b m->(Dm c.heap H).Ns b m:=λ{b m}⟨o,A,B,e,d,r⟩=>⟨o,A,B,ce e (f6 e d),d,r⟩;have R:K.In (Dm c.heap H):=λb o e=>ce (KX b o e) (by
   cases q:H b with
   |none=>rfl
   |some u =>
    have M:b=a:=W b (by rw[q];simp);subst M;rw[hK (by rw[q];simp)]at e;cases e)
  have hM:Mod K p (Dm c.heap H):=⟨R,E dt,⟨G,E f,j1⟩,let⟨mc,h1,h2⟩:=iO;⟨mc,E h1,h2⟩⟩;have e0:Mw P w K p (Dm c.heap H) callerA [] c H:=⟨rfl,hM,λb o e=>ZK e,WG (Pu _ _),trivial,λb f=>absurd (show b∈([] : Ψ)from f) wr,y,.of_eq hg⟩;refine codeAny_mono ((F _ R (E dt)).run callerA [] c H ⟨[.ref a],[]⟩ [.ref a] [.ref a] _ _ hr e0 (gu c (.ref a)) (.cons rfl .nil) (eB H U hS)) λr g h=>?_;cases r with
  |error e=>exact(kK H e g h).elim
  |ok fl =>
   cases fl with
   |next=>exact False.elim h
   |brk=>exact False.elim h
   |cont=>exact False.elim h
   |ret u =>
    obtain⟨v,Y,os,C,N,t,r',q⟩:=h;have q':v=.bl true:=q;subst q';obtain rfl:u=Value.bool true:=r';refine⟨rfl,OldK.of_keep λb o e=>?_,os,C⟩;cases q:H b with
    |none=>exact N.keep b o e q (by intro z;exact absurd (show b∈([] : Ψ)from z) wr) wr
    |some u =>
     rcases U b with z|⟨ob,J,z⟩
     .rw[q]at z;cases z
     .have z2:=N.frzs b ob _ z;obtain⟨Z,_⟩:=y b _ z;obtain⟨e2,_⟩:=t b _ z2;rw[e]at Z;cases Z;exact e2
 cases I:K.lookup a with
 |some o =>

  have e:=KX a o I;rw[D]at e;cases e;refine core (λ_=>none) (λ_=>.inl rfl) (.inr ⟨_,i.toArray,_,I,rfl,rfl,rfl,by rw[aX,iE];exact S,by simpa using Q⟩) (λb u z=>by have j:(none:Option HO)=some u:=z;cases j) (λb z=>absurd rfl z) λz=>absurd rfl z
 |none =>
  refine core (λb=>if b=a then some (.frz { cls:=.type "list",data:=.seq i.toArray } (.lst (l.map V.int)))else none) (λb=>?_) (.inl (.inr ⟨{ cls:=.type "list",data:=.seq i.toArray },ZY rfl⟩)) (λb u z=>?_) (λb z=>?_) λ_=>I
  .by_cases f:b=a
   .exact .inr ⟨_,_,ZY f⟩
   .exact .inl (ZZ f)
  .by_cases f:b=a
   .have j:=(ZY f).symm.trans z;cases j;subst f;exact⟨D,by rw[ak];exact S,i,_,Q,D⟩
   .have j:=(ZZ f).symm.trans z;cases j
  .by_cases f:b=a
   .exact f
   .exact absurd (ZZ f) z
abbrev KOf{K:Frag}{h:Heap}(_:K.In h):Frag:=K
def afD{l:PySem.W.OpenLaw}{n k:Nat}{q:Program}{c:Φ}{XP:(Str->Ω)->Heap->Prop}{C:World->Heap->Prop}{d:DefRec}{K:Params->Frag}{E:World->eS}{A:World->Sp}{x:Str}
 (N:l.most=some n)(L:n<=sizeLine)(J:d.params.defaults=[])(M:dX k callerA)
 (Q:∀(w:World)(h:Heap),C w h->(K w.params).In h)
 (F:∀(w:World)(i:Str->Ω)(p:Addr)(h:Heap),(K w.params).In h->h.Ns mainGlobals i->i d.name=some (.ref p) ->
   ∃t:FuncData,(∀(s:Shared)(u:Value),BindsTo s t ⟨[u],[]⟩ [(x,u)]) /\
    ∀base:Heap,(K w.params).In base->base.Ns mainGlobals i->bW l.prog w (K w.params) i base (E w) k p t [x] (A w))
 (eB:∀(w:World)(H:Hp)(a:Addr)(m:xm),m.length<=n->Only H->SqL (K w.params) H a (m.map V.int)->A w [.ref a] H (λv _=>v=.bl true) λ_ _ _=>False)
 (I:∀(w:World)(H:Hp)(s:Shared)(e:Value)(r:Shared),E w [] H s (λ_ _ _=>False) e r->False) :
  PySem.W.WalkO q c XP C l.row.toRowW d [] (λf y=>PySem.call f y):=by
 refine Att.Jg N J λw z j i mb p o pm cd bt a y m G Y ho hd a9 X Z d6 B O=>?_;have D:=Q w _ Y;obtain⟨t,P,U⟩:=F w i p _ D G.T.g X;exact acI D G.T.g G.T.b G.T.builtins G.T.nolimit O Z d6 (aL B L) M U P (λH S R=>eB w H a m B S R) λH e r=>I w H j e r
end L2

namespace L2
open PySem PySem.Spec PyProof.Rows
abbrev ab:eS:=λ_ _ _ _ _ _=>False
abbrev E0:XK:=λ_ _ _=>False
def Pk{X:Cx} : Passes ab X E0:=λ_ _ _ _ _ _ _ h=>h.elim
structure Fun(K:Frag)(x qual:Str)(st:Stmt)(f:Addr)(fd:FuncData):Prop where
 ex:∃(oc:Value)(od:Ξ)(kV bt pm:Value)(an:Ξ)(ae ct:Value)(dQ:Array (Ω)),
  fd=PySem.W.fnOf x qual (h_ st) (dZ st) (bG st) .none kV bt pm an ae ct/\K.lookup f=some ⟨oc,od,.func fd,dQ⟩/\codeIn K ae qual
 kp:keepIn K (.ref f)
variable{P:Program}{w:World}{K:Frag}{mg:Str->Ω}{base:Heap}{x qual:Str}{st:Stmt}{f:Addr}{fd:FuncData}{ps:Φ}{sp:Sp}{oc pm:Value}{dQ:Array (Ω)}{A:Around}
def Fun.ok{N:Φ}{k:Nat}(F:Fun K x qual st f fd)(S:bK N ps (bG st))(d:∀b H Q E,sp b H Q E->b.length=ps.length)
 (j:∀(c:Value)(A:Around)(a:xt)(s:Shared)(H:Hp)(b:Ζ)(Q:VK)(E:XK),dX k (A.deeper (envOfC qual (bG st) s.zs f c))->sp b H Q E ->
   ∃t,PSs (MK ab P w K mg base N qual (bG st) f c A a s H E).nox (dZ st) t/\t { nx:=λ_ Y=>Q .non Y,rt:=Q } (start N b) H):bW P w K mg base ab (k+1) f fd ps sp:=by
 obtain⟨oc,m,kV,o,pm,p,c,n,dQ,rfl,e,l⟩:=F.ex;refine C3 e l S d λA a s H b Q E g i=>?_;obtain⟨t,h,q⟩:=j c A a s H b Q E g i;exact⟨t,h.nox,q⟩
def YG{g e:Ξ}{kV d a b:Value}(l:K.lookup f=some ⟨oc,g,.func (PySem.W.fnOf x qual (h_ st) (dZ st) (bG st) .none kV d pm e a b),dQ⟩)
 (c:codeIn K a qual)(k:keepIn K (.ref f)):Fun K x qual st f (PySem.W.fnOf x qual (h_ st) (dZ st) (bG st) .none kV d pm e a b):=⟨⟨oc,g,kV,d,pm,e,a,b,dQ,rfl,l,c⟩,k⟩
def CP{k:Nat}(a:dX k A):A.units+1<cLine:=Y3 (Nat.add_le_add_left (by decide:1<=64) _) a.units
def qR(a:Scope)(x:Str):Bool:=(a.names.lookup x).any λk=>k == .local || k == .cell || k == .free
def P'{a:Scope}(h:qR a x):kn a x:=by
 unfold qR at h;unfold kn;cases e:a.names.lookup x with
 |none=>rw[e]at h;cases h
 |some k=>rw[e]at h;cases k<;>first|exact .inl rfl|exact .inr (.inl rfl)|exact .inr (.inr rfl)|cases h
variable{X:Cx}{N:Pos}{H Y:Hp}{a b:Addr}{J:Ζ}{prog:Program}{E:Ε}{s:Shared}{cx es:xw}{t:String}{e:Expr}{h:Heap}{I:Scope}{U:Δ}{O:L2.St}
abbrev n_X(X:Cx)(i:Nat)(x:Str):Prop:=X.N[i]?=some x/\qR X.env.scope x/\qV x/\qB x
def pv(i:Nat)(b:n_X X i x:=by exact⟨rfl,rfl,wf,wf⟩):PE X (.Name x N) (ot i):=QN b.1 (P' b.2.1) b.2.2.1 b.2.2.2
def Lc{A B:Prop}(h:B):if false=true then A else B:=by
 rwa[ZZ bw]
def II{A B:Prop}(h:A):if true=true then A else B:=by
 rwa[ZY rfl]
def z0(H Y:Hp):Prop:=∀b o,H b=some o->Y b=some o
def z0.refl(H:Hp):z0 H H:=λ_ _ h=>h
def z0.trans{Z d:Hp}(a:z0 H Z)(b:z0 Z d):z0 H d:=λc o h=>b c o (a c o h)
def z0.free(e:z0 H Y){l:Addr}(h:Y l=Option.none):H l=Option.none:=by
 cases q:H l with
 |none=>rfl
 |some o =>
  rw[e l o q]at h;cases h
def z0.seq(e:z0 H Y)(h:SqL K H a J):SqL K Y a J:=by
 rcases h with(h|⟨o,h⟩)|h
 .exact .inl (.inl (e _ _ h))
 .exact .inl (.inr ⟨o,e _ _ h⟩)
 .exact .inr h
def Bd(i:Int):Prop:=i.natAbs<2^8000
def Bd.log2{i:Int}(h:Bd i):i.natAbs.log2<8000:=by
 by_cases a:i.natAbs=0
 .rw[a,Nat.log2_zero];exact TU _
 .exact(Nat.log2_lt a).mpr h
def Bd.bits{i:Int}(h:Bd i):Builtin.Int.intBits i<=2^20:=by
 have e:(2:Nat)^20=1048576:=by decide
 have:=h.log2;unfold Builtin.Int.intBits;split
 .exact aZ _
 .lia
def Tb:OpR X (binaryOp .Mult) (rI (λi j=>Bd i/\Bd j) λi j=>.int (i*j)):=iM λ_ _ _ _ _ _ _ a q=>mul_int q (.of_bits a.1.bits a.2.bits)
def _5:OpR X (binaryOp .FloorDiv) (rI (λ_ j=>j≠0/\Bd j) λi j=>.int (i.fdiv j)):=iM λ_ _ _ _ _ _ _ a q=>floordiv_int a.1 q (.inl (PyProof.noPylong_of_log2 (by have:=a.2.log2;exact UU this wf)))
def Vd:kW X (.builtin "isinstance") (λJ H Q=>∃x c a t b,J=[x,c]/\((∃T,c=.ty T/\a=Value.type T)\/∃C,c=.ref C/\a=Value.ref C)/\HX X.K H x t/\kitOne X.K t a=some b/\Q (.bl b) H):=by
 intro U s O H J k Q I r h;obtain⟨x,c,a,t,b,rfl,i,f,e,q⟩:=h;obtain⟨u,v,rfl,g,d⟩:=r.two;have j:v=a:=by
  rcases i with⟨T,rfl,rfl⟩|⟨T,rfl,rfl⟩
  .exact d
  .exact d
 subst j;exact abx I g f e λl=>⟨.bl b,H,I.tok _,rfl,q⟩
def Uv:kW X (.builtin "sorted") (λJ H Q=>∃l f,J=[.ref l]/\SqL X.K H l (f.map V.int)/\f.length<64/\∀(g:xm)p,H p=none->g.Perm f->g.Pairwise (· <= ·)->Q (.ref p) (upd H p (.lst (g.map V.int)))):=by
 intro U s O H J B Q I r h;obtain⟨l,f,rfl,v,i,q⟩:=h;obtain⟨u,rfl,n⟩:=r.one;cases n;obtain⟨c,j,p,k⟩:=I.list v;have x:=intsAre_of j;have y:c.length=f.length:=by have:=j.length;simpa using this.symm
 refine sorted_ints (vs:=c) p.isList x (Y3 (WG y) i) λout d A m z=>?_;obtain⟨e,w⟩:=sortedAll_at s.heap c out;have t:H (s.zs+1)=none:=I.hok.fresh (Xs _);refine⟨.ref _,_,I.laid (a:=s.zs+1) (o:=.lst (d.map V.int)) (t':=s.toks) (λb u e=>sortedAll_old e) (Xs _) ?_,rfl,q d _ t m z⟩;refine⟨?_,out.toList,e,Ca A,w⟩;rw[ak,m.length_eq];rw[ak]at k;exact k
theorem Pa{d t:Addr}{a:xI}(m:t≠d):∀(n i:Nat)(s:Shared)(Q:Θ->Shared->Prop),s.heap.IsListIter d t i->PlainL s.heap t a->i+n<=a.size ->
  (∀j,j.IsListIter d t (i+n)->Heap.SameBut d s.heap j->Q ((a.toList.drop i).take n) { s with heap:=j })->wpAny (model prog w) A (draw (.ref d) n) Q E s
 |0,i,s,Q,c,_,_,h=>by
  show wpAny _ _ (pure []) Q E s;exact ZT (by simpa using h s.heap c (Heap.SameBut.refl ..))
 |n+1,i,s,Q,c,p,z,h=>by
  have u:i<a.size:=by lia
  show wpAny _ _ (pyNext (.ref d) >>= _) Q E s;refine ZU (wpAny_pyNext_list_item c p.isList (x:=a[i]) (by simp[u]) λg y l=>?_);have v:PlainL g t a:=by
   obtain⟨o,k,e,r⟩:=p;exact⟨o,k,(l.2 t m).trans e,r⟩
  refine ZU (wpAny_holding (Pa m n (i+1) _ _ y v wp λf B b=>ZT ?_));have hd:a.toList.drop i=a[i]::a.toList.drop (i+1):=by simp[ka,u]
  have:=h f (by rwa[show i+(n+1)=i+1+n by lia]) (l.trans b);rw[hd,List.take_succ_cons]at this;exact this
def Hw{t:Addr}{a:xI}{Q:Θ->Shared->Prop}(x:A.handled=none)(h:PlainL s.heap t a)
 (y:∀m,Heap.ExtBut s.zs s.heap m->Q a.toList { s with heap:=m }):wpAny (model prog w) A (unpackItems (.ref t) a.size none) Q E s:=by
 have n:t≠s.zs:=by obtain⟨o,_,v,_⟩:=h;exact aQ (aK v)
 unfold unpackItems;refine ZU ?_
 .unfold notIterableAtAll;refine ZU (wpAny_specialOf h.isList.typeIs slot_list_iter.lookup ?_);refine ZT ?_;simp only[XW,if_false];refine ZU (wpAny_holding (wpAny_pyIter_list h.isList ?_));have g:PlainL (s.heap.push { cls:=.type "list_iterator",data:=.fields #[.ref t,.int 0 0] }) t a:=by
   obtain⟨o,k,e,r⟩:=h;exact⟨o,k,aH _ e,r⟩
  refine ZU (wpAny_holding (Pa n a.size 0 _ _ ⟨_,aW _ rfl,rfl,rfl⟩ g wp λf q i=>?_));have u:List.take a.size (List.drop 0 a.toList)=a.toList:=by
   rw[drop_zero];exact lL wr
  rw[u];rw[ZZ wr];have p:PlainL f t a:=by
   obtain⟨o,k,e,r⟩:=g;exact⟨o,k,(i.2 t n).trans e,r⟩
  refine ZU (wpAny_holding (wpAny_pyNext_list_end x q p.isList wr λd c=>?_));simp only[Option.isSome_none,XW,if_false];refine ZT (y d λb o l e=>c b o l (i.extBut b o l (aH _ e)))
def G6{env:Env}{d}{t:Addr}{a:xI}{Q:Unit->Shared->Prop}(i:A.handled=none)(f:PlainL s.heap t a)
 (g:(assignEach cx env).length=a.size)(e:(assignEach cx env).findIdx? (·.1)=none)
 (h:∀c,Heap.ExtBut s.zs s.heap c->wpAny (model prog w) A (assignInOrder ((assignEach cx env).map (·.2)) a.toList) Q E { s with heap:=c }) :
  wpAny (model prog w) A (assign (.Tuple cx d N) env (.ref t)) Q E s:=by
 rw[assign_Tuple];refine ZU (wpAny_standAt ?_);unfold unpack;rw[g,e];exact ZU (wpAny_holding (Hw i f h))
def NE(K:Frag)(n:Nat)(t:gb):TG:=λv O H Q=>∃a J,v=.ref a/\SqL K H a J/\J.length=n/\t J O H Q
def _a{k:Nat}{t:gb}{n:Nat}(hc:X.calm)(h:PGs X es t)
 (l:(assignEach es X.env).length=n:=by rfl)(w:zi X es:=by rfl):PG X (.Tuple es k N) (NE X.K n t):=by
 intro U s O H v u Q I r hw;obtain⟨a,J,q,j,m,hw⟩:=hw;subst q;cases r;obtain⟨f,c,i,y⟩:=I.list j;refine G6 (I.ok.hd hc) i (by simp[l,<- m,c.length]) w λp g=>?_;have x:Inv X U O H { s with heap:=p }:=I.kept (t':=s.toks) λb o e=>g b o (aQ (aK e)) e;exact h U _ O H J _ Q x (by simpa using c) hw
def z0.upd{H:Hp}{p:Addr}{o:HO}(a:H p=none):z0 H (upd H p o):=λb u e=>by
 rw[cA (jO e a)];exact e
def IxR.imp{r a:R2}(h:IxR X r)(i:∀x y H Q,a x y H Q->r x y H Q):IxR X a:=by
 intro b N U s O H x y v u Q I d c q e;exact h _ _ _ _ _ _ _ _ _ _ _ I d c (i _ _ _ _ q) e
def kW.imp{f:Value}{r a:Ζ->Hp->VK->Prop}(h:kW X f r)(i:∀J H Q,a J H Q->r J H Q):kW X f a:=λU s O H J b Q I c q=>h U s O H J b Q I c (i _ _ _ q)
def my(H:Hp):V->Option String
 |.non=>some "NoneType"
 |.bl _=>some "bool"
 |.int _=>some "int"
 |.str _=>some "str"
 |.ref a=>match H a with
  |some (.lst _)=>some "list"
  |some (.tup _)=>some "tuple"
  |some (.dK _)=>some "dict"
  |_=>none
 |_=>none
def So{x:V}(h:my H x=some t):HX K H x (.type t):=by
 cases x with
 |non=>cases h;exact .non
 |bl=>cases h;exact .bl _
 |int=>cases h;exact .int _
 |str=>cases h;exact .str _
 |byt=>cases h
 |flt=>cases h
 |ty=>cases h
 |ref a =>
  have h:(match H a with
   |some (.lst _)=>some "list"
   |some (.tup _)=>some "tuple"
   |some (.dK _)=>some "dict"
   |_=>none)=some t:=h
  split at h
  .cases h;exact .lst (by assumption)
  .cases h;exact .tup (by assumption)
  .cases h;exact .dK (by assumption)
  .cases h
def Rf(t T:String):Bool:=(t==T) || (t=="bool" && T=="int")
def ZP{T:String}(a:t∈["NoneType","bool","int","str","list","tuple","dict"])(b:T∈["bool","int","str","list","tuple","dict"]):kitOne K (.type t) (.type T)=some (Rf t T):=by
 simp only[YU,US,or_false]at a b;rcases a with rfl|rfl|rfl|rfl|rfl|rfl|rfl<;>rcases b with rfl|rfl|rfl|rfl|rfl|rfl<;>with_unfolding_all rfl
def Si{x:V}(h:my H x=some t):t∈["NoneType","bool","int","str","list","tuple","dict"]:=by
 cases x with
 |non=>cases h;decide
 |bl=>cases h;decide
 |int=>cases h;decide
 |str=>cases h;decide
 |byt=>cases h
 |flt=>cases h
 |ty=>cases h
 |ref a =>
  have h:(match H a with
   |some (.lst _)=>some "list"
   |some (.tup _)=>some "tuple"
   |some (.dK _)=>some "dict"
   |_=>none)=some t:=h
  split at h<;>cases h<;>decide
def Kj:Ζ->Hp->VK->Prop:=λJ H Q=>∃x T t,J=[x,.ty T]/\T∈["bool","int","str","list","tuple","dict"]/\my H x=some t/\Q (.bl (Rf t T)) H
def Ad:kW X (.builtin "isinstance") Kj:=Vd.imp λJ H Q e=>by obtain⟨x,T,t,a,b,c,d⟩:=e;exact⟨x,.ty T,.type T,.type t,_,a,.inl ⟨T,rfl,rfl⟩,So c,ZP (Si c) b,d⟩
def PG.imp{t a:TG}(h:PG X e t)(i:∀v O H Q,a v O H Q->t v O H Q):PG X e a:=λU s O H v u Q I r q=>h U s O H v u Q I r (i _ _ _ _ q)
def L6:Ζ->Hp->VK->Prop:=λJ H Q=>∃l a,J=[.ref l]/\H l=some (.lst (a.map V.int))/\a.length<64/\∀(b:xm)p,H p=none->b.Perm a->b.Pairwise (· <= ·)->Q (.ref p) (upd H p (.lst (b.map V.int)))
def aaV:kW X (.builtin "sorted") L6:=Uv.imp λJ H Q e=>by obtain⟨l,d,a,b,c⟩:=e;exact⟨l,d,a,.of b,c⟩
def dL(P:Program)(w:World)(K:Frag)(mg:Str->Ω)(base:Heap)(k:Nat)(x:Str)(ps:Φ)(sp:Sp):Prop :=
 ∃f fd,bW P w K mg base ab k f fd ps sp/\Binds K fd ps []/\mg x=some (.ref f)/\keepIn K (.ref f)
def cL(K:Frag)(mg:Str->Ω)(x:Str)(st:Stmt)(ps:Φ):Prop :=
 ∃f fd,Fun K x x st f fd/\(∀a:Θ,a.length=ps.length->bindArgs fd ⟨a,[]⟩=pure (ps.zip a))/\mg x=some (.ref f)
def cL.ok{k:Nat}(h:cL K mg x st ps)
 (d:∀f fd,Fun K x x st f fd->bW P w K mg base ab k f fd ps sp):dL P w K mg base k x ps sp:=by
 obtain⟨f,fd,a,b,c⟩:=h;exact⟨f,fd,d f fd a,.all b,c,a.kp⟩
def ZA{j g:Ξ}{kV e b d:Value}(X:K.In h)(G:h.Ns mainGlobals mg)
 (a:nsIn K mainGlobals x=some (some (.ref f)))(l:K.lookup f=some ⟨oc,j,.func (PySem.W.fnOf x x (h_ st) (dZ st) (bG st) .none kV e pm g b d),dQ⟩)
 (c:codeIn K b x)(k:keepIn K (.ref f))
 (m:∀(kV e pm:Value)(g:Ξ)(b d:Value)(i:Θ),i.length=ps.length->bindArgs (PySem.W.fnOf x x (h_ st) (dZ st) (bG st) .none kV e pm g b d) ⟨i,[]⟩=pure (ps.zip i)):cL K mg x st ps :=
 ⟨f,_,YG l c k,m kV e pm g b d,mg_of X G a⟩
section
variable{X:Cx}{p N:Pos}{e:Expr}{es:xw}{t:TA}{x:Str}{k:Nat}{ps:Φ}{sp:Sp}
def W_(sp:Sp)(t:TA):TE:=λO H Q=>t O H λa Z=>sp a Z Q E0
def sH(G:dL X.prog X.w X.K X.mg X.base k x ps sp)(d:dX k X.A)(i:Gl X x)(l:PA X (e::es) t)(m:qV x:=by decide)
 (j:qS X e es:=by rfl)(n:qE X N es:=by rfl):PE X (.Call (.Name x p) (e::es) [] N) (W_ sp t):=by
 obtain⟨f,fd,F,b,g,c⟩:=G;intro U s O H Q I h;refine UO F d i g c b .nil Pk l m j n U s O H Q I ?_;show t O H λa Z=>sp (a++[]) Z Q E0;simp only[append_nil];exact h
end
def P1(a:Int):(if a<0 then -a else a)=((a.natAbs:Nat):Int):=by split<;>omega
def vf(a:Int){b:Int}(h:0<b):fdiv a b=a/b:=lP a (XY h)
def TrD(h base:Heap)(e:Addr)(b:Value)(d:Ξ)(f:Value):Prop :=
 ∃a c T oT W,h.get? e=some a/\(a.cls=b/\a.dict=d)/\a.data=.fields c/\c[1]?=some (.ref T)/\base.get? T=none/\T≠e/\h.get? T=some oT/\oT.data=.fields W/\W[3]?=some f
def Iy(base:Heap)(l:xt)(e:Addr)(a:Value)(d:Ξ)(b:Value)(h:Heap):Prop :=
 base.StaysIn h/\base.get? e=none/\h.FunFrames base l/\TrD h base e a d b
structure Fly(P:Program)(w:World)(l:xt)(H:Hp)(s:Shared)(a:Addr)(C:Value)(Y:Hp)(s':Shared)(B:Heap)(d:Ξ):Prop where
 os:s'.os=s.os
 bare:AllBare s'.gens
 new:s.heap.get? a=none
 un:Un (ci l) [] H Y s.heap s'.heap
 hok:HOk P w Y s'.heap
 frf:∀b∈ci l,Y b=none
 fl:Iy B l a C d .none s'.heap
 cov:∀b o,s'.heap.get? b=some o->b∉ci l->((∃u,s.heap.get? b=some u)\/∃u,Y b=some u)->B.get? b=some o
abbrev G1:Θ:=[.type "ValueError",.type "Exception",.type "BaseException",.type "object"]
def aqk(K:Frag)(C:Addr):Prop:=excIn K C G1 "ValueError.__new__"=true
def XO(a C:Addr)(d:Ξ):HO:=.ext λh=>∃o,h.get? a=some o/\o.cls=.ref C/\o.dict=d/\∃b,o.data=.fields b
def xZ(a:xb):xN->xb->xb
 |[],b=>b
 |(n,k)::r,b=>xZ a r (if k == .free then(n,(a.lookup n).getD 0)::b else b)
def Yq{env:Env}(h:∀y∈I.names,y.2=.free->∃c,env.cells.lookup y.1=some c):closureFor I env=pure (xZ env.cells I.names []):=by
 unfold closureFor;have o:∀(l:xN)(b:xb),(∀y∈l,y.2=.free->∃c,env.cells.lookup y.1=some c) ->
   (forIn l b (λ(x:Str×NameKind)(r:xb)=>if(x.2==NameKind.free)=true then(do let a <- cellOf env x.1;pure (ForInStep.yield ((x.1,a)::r)))else pure (ForInStep.yield r)):Sem (xb))=pure (xZ env.cells l b):=by
  intro l
  induction l with
  |nil=>intro b _;rfl
  |cons y r g =>
   intro b f;obtain⟨n,k⟩:=y;rw[List.forIn_cons];by_cases i:k=.free
   .subst i;obtain⟨c,j⟩:=f (n,.free) aO rfl;have p:cellOf env n=pure c:=by unfold cellOf;rw[show env.cells.lookup n=some c from j]
    simp only[beq_self_eq_true,if_true,p,pure_bind];rw[g _ λz d=>f z (aJ _ d)];show pure _=pure (xZ env.cells r (if(NameKind.free==NameKind.free)=true then(n,(env.cells.lookup n).getD 0)::b else b));rw[show env.cells.lookup n=some c from j]
    rfl
   .have m:(k==NameKind.free)=false:=by simpa using i
    simp only[m,XW,if_false,pure_bind];rw[g _ λz d=>f z (aJ _ d)];show pure _=pure (xZ env.cells r (if(k==NameKind.free)=true then(n,(env.cells.lookup n).getD 0)::b else b));rw[m]
    rfl
 have e:=o I.names [] h;show(forIn I.names [] (λ(x:Str×NameKind)(r:xb)=>if(x.2==NameKind.free)=true then(do let a <- cellOf env x.1;pure (ForInStep.yield ((x.1,a)::r)))else pure (ForInStep.yield r)):Sem (xb)) >>= (λq=>pure q)=_;rw[e]
 rfl
theorem Vf{a:xb} : ∀{b:xN}{d:xb}{x:Str}{c:Addr},(∀y∈b,y.2=.free->∃c,a.lookup y.1=some c)->(x,c)∈xZ a b d->(x,c)∈d\/a.lookup x=some c
 |[],_,_,_,_,h=>.inl h
 |(n,k)::r,d,x,c,g,h=>by
  unfold xZ at h;rcases Vf (λy i=>g y (aJ _ i)) h with z|z
  .by_cases f:k=.free
   .subst f;simp only[beq_self_eq_true,if_true]at z;rcases YU.mp z with e|e
    .obtain⟨m,l⟩:=g (n,.free) aO rfl;cases e;rw[show a.lookup n=some m from l];exact .inr rfl
    .exact .inl e
   .have j:(k==NameKind.free)=false:=by simpa using f
    simp only[j,XW,if_false]at z;exact .inl z
  .exact .inr z
theorem VL{cells:xb} : ∀{a:xN}{acc:xb}{x:Str},((x,NameKind.free)∈a\/∃c,(x,c)∈acc)->∃c,(x,c)∈xZ cells a acc
 |[],_,_,h=>by
  rcases h with h|h
  .cases h
  .exact h
 |(n,k)::r,acc,x,h=>by
  unfold xZ;refine VL ?_;rcases h with h|⟨c,h⟩
  .rcases YU.mp h with e|e
   .cases e;exact .inr ⟨_,by simp only[beq_self_eq_true,if_true];exact aO⟩
   .exact .inl e
  .refine .inr ⟨c,?_⟩;split
   .exact aJ _ h
   .exact h
theorem rM{a:Type}{x:Str}{c:a} : ∀{l:List (Str×a)},(x,c)∈l->∃f,l.lookup x=some f
 |(y,d)::r,h=>by
  rw[lookup_cons];cases b:x==y with
  |true=>exact⟨d,rfl⟩
  |false =>
   rcases YU.mp h with e|e
   .cases e;simp at b
   .exact rM e
def Inv.nostk'(I:Inv X U O H s)(c:b≠X.env.locals)(a:b∉X.fs):b∉ci X.stack:=λz=>by
 rcases YU.mp (I.stkSub b z)with e|e
 .exact c e
 .exact a e
theorem Fl{env:Env} : ∀{a:xN}{y:Str},(a.map λ(n,k)=>if(k==NameKind.free&&env.scope.kind == .function&&env.kindOf n==some .cell)then(n,NameKind.cell)else(n,k)).lookup y=some .cell \/
  (a.map λ(n,k)=>if(k==NameKind.free&&env.scope.kind == .function&&env.kindOf n==some .cell)then(n,NameKind.cell)else(n,k)).lookup y=some .free->(∀z∈a,z.2≠.cell)->(y,NameKind.free)∈a
 |[],y,h,_=>by rcases h with h|h<;>cases h
 |(n,k)::r,y,h,hc=>by
  have e:=@Fl env r y;simp only[map_cons]at h;by_cases b:(k==NameKind.free&&env.scope.kind == .function&&env.kindOf n==some .cell)
  .rw[ZY b]at h;simp only[lookup_cons]at h;cases c:y==n with
   |true =>
    have f:k=.free:=by
     simp only[and_eq_true,beq_iff_eq]at b;exact b.1.1
    have:y=n:=by simpa using c
    subst this f;exact aO
   |false =>
    rw[c]at h;exact aJ _ (e h λz d=>hc z (aJ _ d))
  .rw[ZZ b]at h;simp only[lookup_cons]at h;cases c:y==n with
   |true =>
    rw[c]at h;have:y=n:=by simpa using c
    subst this;rcases h with h|h
    .exact absurd (Option.some.inj h) (hc (y,k) aO)
    .have:k=.free:=Option.some.inj h;subst this;exact aO
   |false =>
    rw[c]at h;exact aJ _ (e h λz d=>hc z (aJ _ d))
def er:Ζ->Ζ->Bool
 |[],[]=>true
 |x::J,y::a=>G0 x y&&er J a
 |_,_=>false
def Inv.tupIs(I:Inv X U O H s)(h:H a=some (.tup J)):∃b,z5 J b/\IsTup s.heap a b.toArray/\s.heap.IsTuple a b.toArray:=by
 obtain⟨b,d,c,_⟩:=I.tuple (SqT.of h);exact⟨b,d,c,c⟩
def Inv.lstIs(I:Inv X U O H s)(h:H a=some (.lst J)):∃b,z5 J b/\s.heap.IsList a b.toArray:=by
 obtain⟨b,c,d,_⟩:=I.list (SqL.of h);exact⟨b,c,d.isList⟩
open PySem.SeqAt in
mutual
inductive Shows(H:Hp):V->PyData->Prop
 |non:Shows H .non .none
 |bl (b:Bool):Shows H (.bl b) (.bool b)
 |int (i:Int):Shows H (.int i) (.int i)
 |str (x:Str):Shows H (.str x) (.str x)
 |lst {a:Addr}{J:Ζ}{ds:xa} : H a=some (.lst J)->fW H J ds->Shows H (.ref a) (.list ds)
 |tup {a:Addr}{J:Ζ}{ds:xa} : H a=some (.tup J)->fW H J ds->Shows H (.ref a) (.tuple ds)
inductive fW(H:Hp):Ζ->xa->Prop
 |nil:fW H [] []
 |cons {x:V}{J:Ζ}{d:PyData}{ds:xa} : Shows H x d->fW H J ds->fW H (x::J) (d::ds)
end
mutual
theorem Shows.same{H Y:Hp}(S:z0 H Y):∀{x:V}{d:PyData},Shows H x d->Shows Y x d
 |_,_,.non=>.non
 |_,_,.bl b=>.bl b
 |_,_,.int i=>.int i
 |_,_,.str x=>.str x
 |_,_,.lst e h=>.lst (S _ _ e) (fW.same S h)
 |_,_,.tup e h=>.tup (S _ _ e) (fW.same S h)
theorem fW.same{H Y:Hp}(S:z0 H Y):∀{J:Ζ}{a:xa},fW H J a->fW Y J a
 |_,_,.nil=>.nil
 |_,_,.cons h t=>.cons (Shows.same S h) (fW.same S t)
end
theorem fW.ints(H:Hp):∀a:xm,fW H (a.map V.int) (a.map PyData.int)
 |[]=>.nil
 |n::a=>.cons (.int n) (fW.ints H a)
mutual
theorem Inv.reads(I:Inv X U O H s):∀{x:V}{d:PyData}{v:Value},Shows H x d->z4 x v->∃g,Reads s.heap v d g
 |_,_,_,.non,r=>by cases r;exact⟨_,.none⟩
 |_,_,_,.bl b,r=>by cases r;exact⟨_,.bool b⟩
 |_,_,_,.int i,r=>by obtain⟨t,rfl⟩:=r;exact⟨_,.int i t⟩
 |_,_,_,.str x,r=>by obtain⟨t,rfl⟩:=r;exact⟨_,.str x t⟩
 |_,_,_,.lst e h,r=>by
  cases r;obtain⟨c,a,⟨o,f,hc,n,hd⟩⟩:=I.lstIs e;obtain⟨g,q⟩:=Inv.readsAll I h a;exact⟨_,.list f hc hd q⟩
 |_,_,_,.tup e h,r=>by
  cases r;obtain⟨c,a,_,⟨o,f,hc,n,hd⟩⟩:=I.tupIs e;obtain⟨g,q⟩:=Inv.readsAll I h a;exact⟨_,.tuple f hc hd q⟩
theorem Inv.readsAll(I:Inv X U O H s):∀{J:Ζ}{d:xa}{c:Θ},fW H J d->z5 J c->∃i,ReadsAll s.heap c d i
 |_,_,_,.nil,r=>by cases r;exact⟨_,.nil⟩
 |_,_,_,.cons h t,r=>by
  cases r with
  |cons f e =>
   obtain⟨a,g⟩:=Inv.reads I h f;obtain⟨b,q2⟩:=Inv.readsAll I t e;exact⟨_,.cons g q2⟩
end
def KI:Ζ->Hp->VK->Prop:=λJ H Q=>∃(l:Addr)(a:xm),J=[.ref l]/\H l=some (.lst (a.map V.int))/\Q (.int a.sum) H
def aaz(hc:X.calm):kW X (.builtin "sum") KI:=by
 intro U s O H J j Q I r h;obtain⟨l,g,rfl,i,q⟩:=h;obtain⟨u,rfl,f⟩:=r.one;cases f;obtain⟨a,d,p⟩:=I.lstIs i;have c:=intsAre_of d;obtain⟨J,e⟩:=c.allInts.items;have b:=c.numsOf;rw[show a=a.toArray.toList from rfl,e,nums_intItems]at b;rw[e]at p;refine sum_intListG (I.ok.hd hc) p λo m n k=>⟨.int g.sum,H,I.kept k,?_,q⟩;rw[preSum_eq,lL wr,b];exact⟨_,rfl⟩
def tM(t:TE):TE:=λO H Q=>∃R:VK,t O H R/\∀x Y,R x Y->Q x Y
def F1(t:TA):TA:=λO H Q=>∃R:Ζ->Hp->Prop,t O H R/\∀x Y,R x Y->Q x Y
def PE.mono{a:Expr}{t:TE}(h:PE X a t):PE X a (tM t):=λU s O H Q I ⟨R,d,c⟩ =>
 ah (h U s O H R I d) λv f b=>by obtain⟨x,Y,e,r,q⟩:=b;exact⟨x,Y,e,r,c x Y q⟩
variable{t:TA}{ai af:Pos}{tg be iter:Expr}{v y:V}{tc:TT}{wi:TI}{te:TE}{ext:Addr->xb}{fn:Str->Bool}{aS:xw}{gt:TG}{o:xD}{u:Value}{kvs:xF}
def PA.mono(h:PA X es t):PA X es (F1 t):=λN U s O H Q I ⟨R,c,b⟩ =>
 ah (h N U s O H R I c) λv e a=>by obtain⟨x,Y,d,r,q⟩:=a;exact⟨x,Y,d,r,b x Y q⟩
def PE.imp{a:Expr}{t b:TE}(h:PE X a t)(i:∀O H Q,b O H Q->t O H Q):PE X a b:=λU s O H Q I q=>h U s O H Q I (i O H Q q)
def IZ(d:TE)(t:TA):TE:=λO H Q=>d O H λx Z=>∃l J,x=.ref l/\Z l=some (.lst J)/\t O Z λc b=>∃y a,c=[y]/\b l=some (.lst a)/\a.length<sizeLine/\Q .non (upd b l (.lst (a++[y])))
abbrev zk(X:Cx)(a:Pos)(e:Expr):Prop:=((backTo a (starEach [e] X.env)).all (λx=>!x.1)&&(backToKw a (keywordEach [] X.env)).all (λx=>x.1.isSome)&&decide ([e].length+([] : wq).length+(if([] : wq).isEmpty then 0 else 1)<30))=true
def EV{o:Expr}{a:TE}(j:PE X o a)(p:PA X [e] t)(n:attributeBase o "append" X.env (eval o X.env)=eval o X.env:=by rfl)
 (m:zk X af e:=by rfl)
 (k:ze ai af:=by rfl)(g:qS X e []:=by rfl)(i:qE X af []:=by rfl) :
  PE X (.Call (.Attribute o "append" ai) [e] [] af) (IZ a t):=by
 refine(ph PySem.F.plainAttrs_list PySem.F.slot_list_append PySem.F.type_list_append PJ j.mono p.mono n m k g i).imp λO H Q h=>?_;refine⟨_,h,?_⟩;rintro x Z ⟨l,J,rfl,f,r⟩;refine⟨.inl ⟨rfl,_,SqL.of f⟩,_,r,?_⟩;rintro s u ⟨y,b,rfl,d,c,q⟩;exact⟨l,b,y,rfl,rfl,d,c,q⟩
def Rl:Ζ->Hp->VK->Prop:=λJ H Q=>∃p a,J=[.ref p]/\H p=some (.lst a)/\∀l,H l=none->Q (.ref l) (upd H l (.lst a))
def Xm:kW X (.type "list") Rl:=Rv.imp λJ H Q e=>by obtain⟨p,d,a,b,c⟩:=e;exact⟨p,d,a,.inl (.of b),c⟩
mutual
theorem XH:∀a:xm,PyData.canLayAll0 (a.map PyData.int)
 |[]=>rfl
 |n::a=>by
  rw[map_cons];unfold PyData.canLayAll0;rw[XH a];rfl
end
inductive FL(H:Hp):Ζ->Γ->Prop
 |nil:FL H [] []
 |cons {p:Addr}{f:Β}{J:Ζ}{fs:Γ} : H p=some (.tup [.int f.1,.int f.2])->FL H J fs->FL H (.ref p::J) (f::fs)
def mn(x:Str):It:=⟨λi _=>i<x.cps.size,λi H v Y=>Y=H/\∃c,x.cps[i]?=some c/\v=.str ⟨#[c]⟩,λi _=>i=x.cps.size⟩
def WM(a:Addr)(x:Str)(t:Tok)(j:String)(N : ["enumerate","zip","dict_itemiterator","dict_reverseitemiterator","odict_iterator","itertools.zip_longest","itertools.pairwise"].contains j=false)
 (W:∀A:Around,A.handled=none->Walks P w A a [a] [a] x.cps.size (SignAt x) (λi h=>h.IsStrIter a j x t i))
 (M:∀(A:Around)(i:Nat)(s:Shared)(Q:Ε)(E:Ε),s.heap.IsStrIter a j x t i->Q (.ref a) s->wpAny (model P w) A (pyIter (.ref a)) Q E s):Turn P w K tg (mn x) [a] a (λi h=>h.IsStrIter a j x t i) where
 mem:=by simp
 obj:=λi h st b d=>by
  have e:b=a:=by simpa using d
  subst e;obtain⟨o,f,_,hd⟩:=st;exact⟨o,f,λv z=>by rw[hd]at z;cases z⟩
 keep:=λi h m st k=>let⟨o,f,r⟩:=st;⟨o,k a wr o f,r⟩
 item:=by
  intro X y hw B hc i U s O H E I l st q;subst y hw B;obtain⟨J,G,Y,F,D,C⟩:=l a wr;refine(W X.A (I.ok.hd hc)).item i s _ _ q st λv m n S L p=>?_;obtain⟨c,u,R,rfl⟩:=S;have Z:Inv X U O H { s with heap:=m,toks:=n }:=I.turned (λb o d e=>p b o (by simpa using d) e) J G F D C;obtain⟨o,f,V,hd⟩:=id L;exact⟨_,rfl,VG (s:={ s with heap:=m,toks:=n }) f V hd N ⟨.str ⟨#[c]⟩,H,Z,⟨u,rfl⟩,⟨rfl,c,R,rfl⟩,L,λb d=>(l b d).1⟩⟩
 done:=by
  intro X y hw B hc i U s O H E I l st q;subst y hw B;obtain⟨J,G,Y,F,D,C⟩:=l a wr;have T:i=x.cps.size:=q;subst T;exact(W X.A (I.ok.hd hc)).done s _ _ st λm n p=>⟨rfl,I.turned (λb o d e=>p b o (by simpa using d) e) J G F D C⟩
 self:=M
def IX(te:TE):TI:=λO H R=>te O H λv Z=>∃x,v=.str x/\R (mn x) Z
def NS{l:Expr}{f:TE}(p:PE X l f):PI X tg l (IX f):=by
 intro U s O H R I h;refine ah (p U s O H _ I h) λv a u=>?_;obtain⟨x,Z,d,n,y,w,q⟩:=u;subst w;obtain⟨t,rfl⟩:=n;have m:∀b∈[a.zs],Ji X U Z b:=λb r=>by
  have e:b=a.zs:=by simpa using r
  subst e;exact d.fpOk (aG _) (d.hok.fresh (aG _))
 have k:∀o:Obj,Inv X U O Z { a with heap:=a.heap.push o }:=λo=>d.kept (t':=a.toks) λb B z=>aH _ z;cases j:y.cps.all (· < 128)
 .exact wpAny_pyIter_wide j ⟨a.zs,[a.zs],_,mn y,Z,rfl,k _,WM _ y t "str_iterator" wf (λA c=>Walks.strWide c _ y t) (λA i s Q E st h=>wpAny_pyIter_striter_wide st h),⟨_,aW _ rfl,rfl,rfl⟩,m,q⟩
 .exact wpAny_pyIter_ascii j ⟨a.zs,[a.zs],_,mn y,Z,rfl,k _,WM _ y t "str_ascii_iterator" wf (λA c=>Walks.strAscii c _ y t) (λA i s Q E st h=>wpAny_pyIter_striter_ascii st h),⟨_,aW _ rfl,rfl,rfl⟩,m,q⟩
def JM(x:Str)(lo a:xo):Str:=⟨((x.cps.toList.drop (HT.sIx x.length 0 lo)).take (HT.sIx x.length x.length a-HT.sIx x.length 0 lo)).toArray⟩
def strIdx(lo a:xo)(n:Nat):Builtin.Str.strSliceIndices lo a 1 n=(range (HT.sIx n n a-HT.sIx n 0 lo)).map (HT.sIx n 0 lo + ·):=by
 rw[<- sliceRange_one];unfold Builtin.Str.strSliceIndices;have b:∀(o:xo)(d:Nat),d<=n->(match o with
   |none=>(d:Int)
   |some i=>(let i:=if i<0 then i+(n:Int)else i;if(1:Int)>0 then max 0 (min i n)else max (-1) (min i (n-1))))=((HT.sIx n d o:Nat):Int):=by
  intro o d hd;cases o with
  |none=>rfl
  |some i =>
   simp only[HT.sIx,show(1:Int)>0 by decide,if_true];by_cases h:i<0
   .simp only[h,if_true]<;>lia
   .simp only[h,if_false]<;>lia
 have e:=b lo 0 (aZ _);have c:=b a n (aG _);simp only[show(1:Int)>0 by decide,if_true]at e c ⊢;rw[<- e,<- c]
 rfl
def UI(x:Str)(lo a:xo):(⟨((Builtin.Str.strSliceIndices lo a 1 x.length).filterMap (x.cps[·]?)).toArray⟩ : Str)=JM x lo a:=by
 rw[strIdx,pick_run];rfl
def X3(x:Str)(lo a:xo)(h:(Builtin.Str.strSliceIndices lo a 1 x.length).length=x.length):JM x lo a=x:=by
 rw[strIdx,ak,WH]at h;have d:=HT.aiJ x.length x.length (aG _) a;unfold JM;have b:x.length=x.cps.size:=rfl;have e:x.cps.toList.length=x.length:=by simp[b]
 by_cases z:x.length=0
 .have:x.cps.toList=[]:=List.length_eq_zero_iff.mp (Eq.trans e z);rw[this];obtain⟨⟨l⟩⟩:=x;simp at this;subst this;simp
 .have c:HT.sIx x.length 0 lo=0:=by lia
  rw[c,drop_zero,lL wp]
def Ki:V->xo->xo->Hp->VK->Prop:=λx lo a H Q=>∃y,x=.str y/\y.length<=sizeLine/\Q (.str (JM y lo a)) H
def part_of{v:Value}{o:xo}(h:IsPart v o):∃l:Option (Int×Tok),v=partValue l/\l.map (·.1)=o:=by
 cases h with
 |none=>exact⟨none,rfl,rfl⟩
 |int i t=>exact⟨some (i,t),rfl,rfl⟩
def Pl{X:Cx} : SlR X Ki:=by
 intro U s O H x v o n lo a p Q I c j f d h;obtain⟨y,rfl,g,q⟩:=h;obtain⟨t,rfl⟩:=c;obtain⟨l,rfl,m⟩:=part_of f;obtain⟨u,rfl,k⟩:=part_of d;refine⟨"str",_,F.slot_str_getitem.lookup,typeIs_str s y t,wpAny_getItem_str_slice (l:=l) (u:=u) (st:=none) j rfl ?_⟩;unfold sliceMade slicePicked;rw[m,k];split
 .rename_i i
  have b:=(Bool.and_eq_true_iff.mp i).2;rw[beq_iff_eq]at b;have e:=X3 y lo a b;rw[e]at q;exact⟨.str y,H,I,⟨t,rfl⟩,q⟩
 .have e:=UI y lo a;refine⟨?_,.str (JM y lo a),H,I.tok _,⟨s.toks,?_⟩,q⟩
  .refine aL ?_ g;refine aL (WG (ZH Str.length e)) ?_;show((y.cps.toList.drop _).take _).toArray.size<=y.cps.size;rw[aX,aY,TW,Array.length_toList];lia
  .rw[<- e];rfl
def Nn:R2:=λx y H Q=>∃i j,x=.str i/\y=.str j/\i.length+j.length<=sizeLine/\Q (.str (i++j)) H
def YO:OpR X (binaryOp .Add) Nn:=XC
def HV:R2:=λx y H Q=>∃i j,x=.str i/\y=.str j/\Q (.bl (!decide (j.cps.toList<i.cps.toList))) H
def Sj:OpR X (compareOp .LtE) HV:=by
 intro U s O H x y v u Q I b a h;obtain⟨i,j,rfl,rfl,q⟩:=h;obtain⟨t,rfl⟩:=b;obtain⟨c,rfl⟩:=a;exact PySem.P.le_str (dG I q rfl)
def OpR.imp{f:Value->Value->Sem Value}{r a:R2}(h:OpR X f r)(i:∀x y H Q,a x y H Q->r x y H Q):OpR X f a:=λU s O H x y v u Q I c b q=>h U s O H x y v u Q I c b (i _ _ _ _ q)
theorem Hh:∀{a:wx}{c:Θ},z5 (a.map V.bl) c->∀(i:Nat)(v:Value),c[i]?=some v->∃b,a[i]?=some b/\v=.bool b
 |[],_,.nil,i,v,h=>by cases i<;>cases h
 |b::a,_,.cons r t,0,v,h=>by
  rw[List.getElem?_cons_zero]at h;cases h;exact⟨b,rfl,r⟩
 |b::a,_,.cons r t,i+1,v,h=>by
  rw[List.getElem?_cons_succ]at h;exact Hh t i v h
def OF:Ζ->Hp->VK->Prop:=λJ H Q=>∃(l:Addr)(a:wx),J=[.ref l]/\H l=some (.lst (a.map V.bl))/\Q (.bl (a.all id)) H
theorem xW:∀a:wx,((range a.length).all λi=>(a[i]?).getD true)=a.all id
 |[]=>rfl
 |b::a=>by
  rw[length_cons,List.range_succ_eq_map,all_cons,all_map,all_cons];have:=xW a;simp only[Function.comp_def,List.getElem?_cons_succ,List.getElem?_cons_zero,getD_some,id]at this ⊢;rw[this]
def aaZ(hc:X.calm):kW X (.builtin "all") OF:=by
 intro U s O H J x Q I r h;obtain⟨l,c,rfl,m,q⟩:=h;obtain⟨u,rfl,j⟩:=r.one;cases j;obtain⟨a,d,p⟩:=I.lstIs m;have w:l<s.zs:=by obtain⟨_,e,_⟩:=p;exact aK e
 refine call_all_walk (wpAny_pyIter_list p ?_);refine⟨s.zs,[s.zs,l],[s.zs],a.toArray.size,_,_,λi=>(c[i]?).getD true,rfl,Walks.list (A:=X.A.in1) (I.ok.hd hc) _ l (aQ w) a.toArray,
  ⟨⟨_,aW _ rfl,rfl,rfl⟩,p.push _⟩,λi v y B C t f=>?_,λz g n=>?_⟩
 .obtain⟨b,e,rfl⟩:=Hh d i v (by simpa using t);simp only[e,getD_some]at f;exact wpAny_truthy_bool f
 .have e:((range a.toArray.size).all λi=>(c[i]?).getD true)=c.all id:=by
   rw[aX,<- d.length,ak];exact xW c
  refine⟨.bl (c.all id),H,I.kept (t':=g) λb o q=>n b o (λk=>?_) (aH _ q),?_,q⟩
  .rw[YR.mp k]at q;exact Wp _ (aK q)
  .rw[e];rfl
def FX(r:V->Ζ->Hp->VK->Prop)(b:TE)(t:TA):TE:=λO H Q=>b O H λx Z=>(∃y,x=.str y)/\t O Z λa c=>r x a c Q
def OB{o:Expr}{b:TE}{a:Str}{id:String}{r:V->Ζ->Hp->VK->Prop}(slot:Slot "str" a id)(c:typeOf (.builtin id)=pure (.type "method_descriptor"))(i:mj X id r)(g:PE X o b)(m:PA X [e] t)
 (l:zo X o a:=by rfl)
 (k:zk X af e:=by rfl)
 (j:ze ai af:=by rfl)(d:qS X e []:=by rfl)(f:qE X af []:=by rfl) :
  PE X (.Call (.Attribute o a ai) [e] [] af) (FX r b t):=by
 refine(ph PySem.F.plainAttrs_str slot c i g.mono m l k j d f).imp λO H Q h=>?_;refine⟨_,h,?_⟩;rintro x Z ⟨⟨y,rfl⟩,n⟩;exact⟨rfl,n⟩
def _8(b:Gl X x)(a:∃u,X.mg x=some u/\z4 v u)(hd:qV x:=by decide):PE X (.Name x N) (tC v):=by
 obtain⟨u,d,c⟩:=a;exact Fa b d c hd
def hid(y:Str):Str:=Str.ofString "?"++y
def Qo(J:Φ)(N:Φ):Φ:=N.map λy=>if y∈J then hid y else y
def Cx.compG(X:Cx)(a:Φ)(I:Scope)(J:Φ)(C:Addr)(s₀:Shared)(H₀:Hp)(ex:Ψ)(pn:Δ):Cx :=
 { X with env:=compEnvC I (xZ X.env.cells I.names []) C X.env,N:=J++a,s₀:=s₀,H₀:=H₀,outer:=X.stack,ex:=ex,fn:=λ_=>false,pn:=pn,xe:=λ_ _=>False }
def PTs(X:Cx)(aS:xw)(tc:TT):Prop:=∀(U:Δ)(s:Shared)(O:L2.St)(H:Hp)(Q:Bool->Hp->Prop),Inv X U O H s->tc O H Q ->
 wpAny (model X.prog X.w) X.A (forIn aS true λc r=>if r=true then do let d <- isTrue c X.env (eval c X.env);pure (ForInStep.yield d)else pure (ForInStep.yield r)) (λb a=>∃Y,Inv X U O Y a/\Q b Y) X.xe s
def Hk:TT:=λ_ H Q=>Q true H
def _l{X:Cx} : PTs X [] Hk:=λ_ _ _ H _ I q=>wpAny_tests_nil ⟨H,I,q⟩
def _G{X:Cx}{c:Expr}(h:PT X c tc):PTs X [c] tc:=λU s O H Q I q=>wpAny_tests_one (h U s O H Q I q)
def uP(wi:TI)(n:Nat)(gt:TG)(tc:TT)(te:TE):TE:=λO H Q=>wi O H λJ Z=>∀D,Z D=none->∃W:Nat->Nat->Ζ->Hp->Prop,(∃m,W 0 m [] (upd Z D (.lst [])))/\∀i m c f,W i m c f ->
 (J.stop i f/\Q (.ref D) f)\/(J.go i f/\∀x Y,J.yld i f x Y->∀d:L2.St,d.length=n->gt x (d++O) Y λa k=>∃g:L2.St,g.length=n/\a=g++O/\tc a k λb j =>
  match b with
  |true=>te a j λy h=>c.length<sizeLine/\h D=some (.lst c)/\∃e,e<m/\W (i+1) e (c++[y]) (upd h D (.lst (c++[y])))
  |false=>∃e,e<m/\W (i+1) e c j)
def Cx.compE(X:Cx)(ext:Addr->xb)(fn:Str->Bool)(a:Φ)(I:Scope)(J:Φ)(C:Addr)(s₀:Shared)(H₀:Hp)(ex:Ψ)(pn:Δ):Cx :=
 { X with env:=compEnvC I (ext C++xZ X.env.cells I.names []) C X.env,N:=J++a,s₀:=s₀,H₀:=H₀,outer:=X.stack,ex:=ex,fn:=fn,pn:=pn,xe:=λ_ _=>False }
structure U0(X:Cx)(I:Scope)(J:Φ)(ext:Addr->xb)(fn:Str->Bool):Prop where
 new:∀{M:Model}{A:Around}{E:Ε}{s:Shared}{globals:Addr}{b9:xb}{qual:Str}{outer:Env}{Q:Env->Shared->Prop},(∀g,g.Ns s.zs (λx=>([] : xh).reverse.lookup x)->(∀y c,(ext s.zs).lookup y=some c->g.IsCell c none)->(∀b o,s.heap.get? b=some o->g.get? b=some o)->Q (newEnv I s.zs globals (ext s.zs++b9) qual none .none (some outer) builtinsNs) { s with heap:=g,toks:=s.toks+([] : xh).length }) ->
  wpAny M A (newFunctionEnv I globals b9 [] qual none .none (some outer)) Q E s
 up:∀C y c,(ext C).lookup y=some c->C<c
 one:∀C y z c,(ext C).lookup y=some c->(ext C).lookup z=some c->y=z
 nw:∀C y,fn y->∃c,(ext C).lookup y=some c
 off:∀C y,y∉J->(ext C).lookup y=none
 kd:∀C y,((relabel I X.env).names.lookup y=some .cell\/(relabel I X.env).names.lookup y=some .free)->(∃c,(ext C).lookup y=some c)\/(y,NameKind.free)∈I.names
def zd{X:Cx}{J:Φ}(f:I.kind=.function)(a:∀y∈I.names,y.2≠.cell):U0 X I J (λ_=>[]) (λ_=>false) :=
 ⟨λh=>wpAny_newFunctionEnv a (by intro y d;simp at d) (λg i c=>h g i (λ_ _ z=>(nomatch z)) λb o e=>(c.2 b (aQ (aK e))).trans (aH _ e)) f,λ_ _ _ z=>(nomatch z),λ_ _ _ _ z=>(nomatch z),λ_ _ z=>(nomatch z),λ_ _ _=>rfl,λ_ _ e=>.inr (Fl e a)⟩
def Ql{use:Option (Value->Sem Unit)}{post:Ε}{Qv:VK}{pp:Pos}{J N':Φ}(E:U0 X I J ext fn)(hc:X.calm)(hJ:Qo J X.N=N')(c5:I.kind=.function)(dk:∀y∈I.names,y.2=.local->I.names.lookup y.1=some .local)
 (bP:∀y∈I.names,y.2=.free->X.env.kindOf y.1=some .cell\/X.env.kindOf y.1=some .free)(gi:∀y∈X.N,y∉J->(relabel I X.env).names.lookup y≠some .local)(hq:∀y∈X.N,y∈J->(relabel I X.env).names.lookup (hid y)=none)(hi:PI X tg iter wi)
 (hg:∀C x F ex pn,PG (X.compE ext fn N' I J C x F ex pn) tg gt)(ht:∀C x F ex pn,PTs (X.compE ext fn N' I J C x F ex pn) aS tc)(he:∀C x F ex pn,PE (X.compE ext fn N' I J C x F ex pn) be te)(hs:zg X iter)(f:Inv X U O H s)(h:uP wi J.length gt tc te O H Qv)
 (qh:∀(C D:Addr)(l:Hp)(s6:Shared)(m:Str->Ω)(fl:Flow),s6.heap.Ns C m->Inv X U O l s6->Ji X U l C->Qv (.ref D) l->compPost (model X.prog X.w) X.A X.xe use post (.ref D) C (.ok fl) s6) :
  wpAny (model X.prog X.w) X.A (comprehension (.ListComp be [⟨tg,iter,aS,0⟩] I N) I X.env pp (newList []) false (eval iter X.env) use) post X.xe s:=by
 have jI:∀y∈I.names,y.2=.free->∃c,X.env.cells.lookup y.1=some c:=λy hy e=>f.ok.has y.1 (bP y hy e);refine wpAny_comprehension_free (use:=use) (Q:=post) rfl hs (Yq jI) c5 dk (ah (hi U s O H _ f h) λv s1 h1=>ah h1 λnL B h2=>?_);obtain⟨it,S,tn,a,H2,e,I2,T,g6,f2,R⟩:=h2;subst e;have nD:H2 B.zs=none:=I2.hok.fresh (aG _);obtain⟨W,⟨m0,w0⟩,fN⟩:=R B.zs nD;refine wpAny_newObj_type ?_ (by show 0<=sizeLine;exact aZ _);have t:Inv X U O (upd H2 B.zs (.lst [])) { B with heap:=B.heap.push { cls:=.type "list",dict:=none,data:=.seq ([] : Θ).toArray } }:=I2.lnew (t':=B.toks) (ys:=[]) (its:=[]) .nil (aZ _);have mT:∀b o,B.heap.get? b=some o->(B.heap.push { cls:=.type "list",dict:=none,data:=.seq ([] : Θ).toArray }).get? b=some o:=λb o e=>aH _ e;generalize hs3:({ B with heap:=B.heap.push { cls:=.type "list",dict:=none,data:=.seq ([] : Θ).toArray } } : Shared)=s3 at t ⊢;have i7:tn 0 s3.heap:=T.keep _ _ _ g6 λb _ o e=>by rw[<- hs3];exact mT b o e
 generalize hH3:upd H2 B.zs (.lst [])=H3 at t w0;have f3:∀b∈S,Ji X U H3 b:=λb k=>by
  obtain⟨a1,a2⟩:=f2 b k;refine⟨?_,a2⟩;obtain⟨o,e,_⟩:=T.obj _ _ g6 b k;rwa[<- hH3,cA (aQ (aK e))]
 refine E.new λg dt fq kg=>?_;have clm:∀{y:Str}{c:Addr},(xZ X.env.cells I.names []).lookup y=some c->X.env.cells.lookup y=some c:=λ{y c}e=>by
  rcases Vf jI (PySem.mem_of_lookup e)with z|z
  .cases z
  .exact z
 have hG:∀{y:Str},(ext s3.zs).lookup y=none->((relabel I X.env).names.lookup y=some .cell\/(relabel I X.env).names.lookup y=some .free)->(X.env.kindOf y=some .cell\/X.env.kindOf y=some .free)/\∃c,(ext s3.zs++xZ X.env.cells I.names []).lookup y=some c/\X.env.cells.lookup y=some c:=λ{y}ny e=>by
  rcases E.kd s3.zs y e with⟨c,z⟩|z
  .rw[ny]at z;cases z
  .obtain⟨c,du⟩:=VL (cells:=X.env.cells) (acc:=[]) (.inl z);obtain⟨c,du⟩:=rM du;exact⟨bP _ z rfl,c,by rw[kb,ny];exact du,clm du⟩
 have kN:∀{y:Str}{c:Addr},(ext s3.zs++xZ X.env.cells I.names []).lookup y=some c->(ext s3.zs).lookup y=some c\/X.env.cells.lookup y=some c:=λ{y c}e=>by
  rw[kb]at e;cases hy:(ext s3.zs).lookup y with
  |some d=>rw[hy]at e;exact .inl e
  |none=>rw[hy]at e;exact .inr (clm e)
 have cll:∀{y z c},(ext s3.zs).lookup z=some c->¬X.env.cells.lookup y=some c:=λ{y z c}P e=>by
  obtain⟨v,o,h1,_⟩:=t.cell y c e;exact Wp _ (UU (aK h1) (E.up _ _ _ P))
 have nv:∀b∈S,b<s3.zs:=λb k=>by
  obtain⟨o,e,_⟩:=T.obj _ _ i7 b k;exact aK e
 have nst:∀b∈S,b∉ci X.stack:=λb k=>t.nostk' (f3 b k).2.1 (f3 b k).2.2.1;have cfp:∀b∈S,∀y c,(ext s3.zs++xZ X.env.cells I.names []).lookup y=some c->c≠b:=λb k y c e=>by
  rcases kN e with z|z
  .exact UK (UU (nv b k) (E.up _ _ _ z))
  .exact(f3 b k).2.2.2.2.1 y c z
 generalize hX:X.compE ext fn N' I J s3.zs s3 H3 S (X.pn++U)=Y;have ok':Y.Ok:=by
  subst hX;exact⟨t.ok.mod,c5,t.ok.glob,t.ok.blt,aG _,λy z c h1 h2=>by
    rcases kN h1 with P|P<;>rcases kN h2 with e2|e2
    .exact E.one _ _ _ _ P e2
    .exact absurd e2 (cll P)
    .exact absurd P (cll e2)
    .exact t.ok.inj y z c P e2,λy hy=>by
    cases hz:(ext s3.zs).lookup y with
    |some c=>exact⟨c,List.lookup_append.trans (by rw[hz];rfl)⟩
    |none=>exact let⟨_,c,q,_⟩:=hG hz hy;⟨c,q⟩,λy c iX e=>by
    obtain⟨d,z⟩:=E.nw s3.zs y iX;have e:(ext s3.zs++xZ X.env.cells I.names []).lookup y=some c:=e;rw[kb,z]at e;cases e;exact Y2 (E.up _ _ _ z),t.ok.hd,t.ok.frames,.inl rfl,
   λb k=>⟨aQ (nv b k),cfp b k⟩,t.bs,aL t.ok.bsz t.sz,λb o e k=>by
    rcases(f3 b k).2.2.2.1 with z|z
    .exact t.ok.noex b o e z
    .exact absurd (aR (aR (aK e) t.ok.bsz) z) (Wp _),nst,t.stack,t.stkFree⟩
 have J4:∀tk,Inv Y [] (replicate J.length none++O) H3 { s3 with heap:=g,toks:=tk }:=λtk=>by
  subst hX;refine⟨ok',rfl,t.bare,Un.kept kg,⟨_,dt,λi y v P e2 e3=>?_⟩,λy c e=>?_,t.hok.fresh (aG _),λy c e=>(kN e).elim (λz=>t.hok.fresh (Y2 (E.up _ _ _ z))) (t.freeC y c),λp hp=>?_,t.hok.kept kg,?_⟩
  .by_cases hin:i<J.length
   .rw[aF (by rwa[aN]),X1,ZY hin]at e2;cases e2
   .obtain⟨j,rfl⟩ : ∃j,i=J.length+j:=⟨i-J.length,by lia⟩;have e0:N'[j]?=some y:=by
     have P:(J++N')[J.length+j]?=some y:=P;rw[aD (X9 _ _)]at P;rw[show J.length+j-J.length=j by exact QU _ _]at P;exact P
    have mf:O[j]?=some (some v):=by
     rw[aD (by rw[aN];exact X9 _ _),aN]at e2;rw[show J.length+j-J.length=j by exact QU _ _]at e2;exact e2
    rw[<- hJ]at e0;obtain⟨L,j2,ey⟩ : ∃L,X.N[j]?=some L/\(if L∈J then hid L else L)=y:=by
     unfold Qo at e0;rw[aq]at e0;cases hz:X.N[j]? with
     |none=>rw[hz]at e0;cases e0
     |some L=>rw[hz]at e0;exact⟨L,rfl,Option.some.inj e0⟩
    have e3:(relabel I X.env).names.lookup y=some .local\/(relabel I X.env).names.lookup y=some .cell\/(relabel I X.env).names.lookup y=some .free:=e3;have ne:¬L∈J:=λz=>by
     rw[ZY z]at ey;subst ey;rw[hq L (aC j2) z]at e3;rcases e3 with z|z|z<;>cases z
    rw[ZZ ne]at ey;subst ey;have e3':(relabel I X.env).names.lookup L=some .cell\/(relabel I X.env).names.lookup L=some .free:=by
     rcases e3 with z|z
     .exact absurd z (gi L (aC j2) ne)
     .exact z
    obtain⟨kd,c,fq,l9⟩:=hG (E.off _ _ ne) e3';obtain⟨m,_,hl⟩:=t.loc;obtain⟨u,r,lk⟩:=hl j L v j2 mf (.inr kd);refine⟨u,r,.inr ⟨e3',c,fq,?_⟩⟩;rcases lk with⟨k1,_⟩|⟨_,c',q1,o,q2,q3⟩
    .exfalso;have k1':X.env.kindOf L=some .local:=k1;rcases kd with k2|k2<;>rw[k1']at k2<;>cases k2
    .rw[l9]at q1;cases q1;exact⟨o,kg _ _ q2,q3⟩
  .rcases kN e with z|z
   .exact⟨none,fq y c z⟩
   .obtain⟨v,o,q2,q3⟩:=t.cell y c z;exact⟨v,o,kg _ _ q2,q3⟩
  .have dA:p∈X.pn++U:=by simpa[Cx.compE]using hp
   obtain⟨a1,a2,a3,a4,a5⟩:=t.pin p dA;exact⟨kg _ _ a1,a2,aQ (aK a1),t.nostk' a3 a4,a5⟩
  .show(replicate J.length none++O).length=(J++N').length;have hln:N'.length=X.N.length:=by rw[<- hJ];unfold Qo;rw[ak]
   rw[aA,aN,aA,t.len,hln]
 have p3:∀{l:Hp},(∀b∈S,l b=none)->∀b∈S,Ji Y [] l b:=λ{l}hn b k=>by
  subst hX;exact⟨hn b k,aQ (nv b k),nst b k,.inl k,cfp b k,λp hp=>(f3 b k).2.2.2.2.2 p (by simpa[Cx.compE]using hp)⟩
 have iA:∀s4:Shared,s4={ s3 with heap:=g,toks:=s3.toks+([] : xh).length } ->
   codeAny (model X.prog X.w) X.A (.compLoop (.ListComp be [⟨tg,iter,aS,0⟩] I N) 0 (.ref it) (.ref B.zs) Y.env) (compPost (model X.prog X.w) X.A X.xe use post (.ref B.zs) s3.zs) s4:=by
  rintro s4 rfl;have YP:Y.prog=X.prog/\Y.w=X.w/\Y.K=X.K/\Y.calm=X.calm/\Y.A=X.A/\Y.env.locals=s3.zs:=by subst hX;exact⟨rfl,rfl,rfl,rfl,rfl,rfl⟩
  obtain⟨y1,y2,y3,y4,y5,y6⟩:=YP;have he':PE Y be te:=by subst hX;exact he _ _ _ _ _
  have g3:PG Y tg gt:=by subst hX;exact hg _ _ _ _ _
  have ht':PTs Y aS tc:=by subst hX;exact ht _ _ _ _ _
  have kU:Y.xe=λ_ _=>False:=by subst hX;rfl
  have yb:∀{l:Hp}{G:L2.St}{pn:Δ}{V:Shared},Inv Y pn G l V->Un (ci X.stack) S H3 l s3.heap V.heap:=λ{l G pn V}Z=>by
   have:=Z.base;subst hX;exact this
  have yos:∀{l:Hp}{G:L2.St}{pn:Δ}{V:Shared},Inv Y pn G l V->V.os=s3.os:=λ{l G pn V}Z=>by
   have:=Z.os;subst hX;exact this
  refine codeAny_loop rfl (λn V=>∃i ys l,∃G:L2.St,G.length=J.length/\Inv Y [] (G++O) l V/\tn i V.heap/\(∀b∈S,l b=none)/\W i n ys l) (λn s5 hI=>?_) m0 ⟨0,[],H3,replicate J.length none,aN,J4 _,T.keep _ _ _ i7 λb _ o e=>kg b o e,λb k=>(f3 b k).1,w0⟩;obtain⟨i,ys,l,G,lS,Z,stc,frc,wc⟩:=hI;show wpAny _ _ ((compTurn (.ListComp be [⟨tg,iter,aS,0⟩] I N) 0 (.ref it) (.ref B.zs) Y.env).onRaise (λz=>do noteFrame z Y.env;theTreesLotGoes z)) _ _ s5;refine wpAny_noted (wpAny_noRaise ?_);rw[compTurn_list];show wpAny (model X.prog X.w) X.A _ _ _ _;rcases fN i n ys l wc with⟨stop,qn⟩|⟨go,step⟩
  .have hd:=T.done Y y1 y2 y3 (y4.trans hc) i [] s5 (G++O) l (λ_ _=>False) Z (p3 frc) stc stop;rw[y5]at hd;refine ZU (wpAny_standAt (ZU (ah hd λr s6 M=>?_)));obtain⟨hr,Z6⟩:=M;subst hr;refine ZT ?_;obtain⟨m,ky,_⟩:=Z6.loc;rw[y6]at ky;have u6:=yb Z6;have hok:HOk X.prog X.w l s6.heap:=by
    have z:=Z6.hok;rw[y1,y2]at z;exact z
   have cn:l s3.zs=none:=by
    have z:=Z6.free;rw[y6]at z;exact z
   have I6:Inv X U O l s6:=t.call' (s':=s6) (ch:=S) (yos Z6) u6 hok Z6.bare λb k=>⟨(f3 b k).2.2.2.1,(f3 b k).2.1,(f3 b k).2.2.2.2.1,(f3 b k).2.2.2.2.2⟩;have fC:Ji X U l s3.zs:=t.fpOk (aG _) cn;exact qh _ _ l s6 m _ ky I6 fC qn
  .have hd:=T.item Y y1 y2 y3 (y4.trans hc) i [] s5 (G++O) l (λ_ _=>False) Z (p3 frc) stc go;rw[y5]at hd;refine ZU (wpAny_standAt (ZU (ah hd λr s6 M=>?_)));obtain⟨u,hr,h6⟩:=M;subst hr;refine ZU (ah h6 λ_ s7 M=>?_);obtain⟨xv,H7,Z7,r7,yl,mB,fr7⟩:=M;have Z7':=Z7.pinned (p3 fr7) (T.obj _ _ mB);have cK:=g3 _ s7 _ H7 xv u _ Z7' r7 (step xv H7 yl G lS);rw[y1,y2,y5,kU]at cK;refine ZU (ah cK λ_ s8 M=>?_);obtain⟨σ8,H8,Z8,pre,fm,e8,q8⟩:=M;subst e8;have hte:=ht' _ s8 _ H8 _ Z8 q8;rw[y1,y2,y5,kU]at hte;have br:∀{m':Nat}{kS:Ζ}{H9:Hp}{s9:Shared},Inv Y ([]++Kv S s7.heap) (pre++O) H9 s9->m'<n->W (i+1) m' kS H9->∃m,m<n/\∃i ys l,∃G:L2.St,G.length=J.length/\Inv Y [] (G++O) l s9/\tn i s9.heap/\(∀b∈S,l b=none)/\W i m ys l:=λ{m' kS H9 s9}Z9 iN w9 =>
    ⟨m',iN,i+1,kS,H9,pre,fm,Z9.unpinned,T.keep _ _ _ mB λb k o e=>(Z9.pin (b,o) (aP _ (aP _ (sE k e)))).1,λb k=>by
     obtain⟨o,e,_⟩:=T.obj _ _ mB b k;exact(Z9.pin (b,o) (aP _ (aP _ (sE k e)))).2.1,w9⟩
   refine ZU (ah hte λok s9 M=>?_);obtain⟨H9,Z9,q9⟩:=M;cases ok with
   |false =>
    obtain⟨m',iN,w9⟩:=q9;exact ZT ⟨rfl,br Z9 iN w9⟩
   |true =>
    have hel:=he' _ s9 _ H9 _ Z9 q9;rw[y1,y2,y5,kU]at hel;refine ZU (ZU (ah hel λev s10 M=>?_));obtain⟨yv,H10,Z10,r10,hz,pS,m',iN,w10⟩:=M;have pE:=PJ (X:=Y) _ s10 _ H10 (.ref B.zs) [yv] (.ref B.zs) [ev] (λ_ Hf=>Hf=upd H10 B.zs (.lst (ys++[yv]))) Z10 rfl (.cons r10 .nil) ⟨_,ys,yv,rfl,rfl,pS,hz,rfl⟩;rw[y1,y2,y5,kU]at pE;refine ZU (ah pE λav s11 M=>?_);obtain⟨_,H11,Z11,_,e11⟩:=M;subst e11;exact ZT (ZT ⟨rfl,br Z11 iN w10⟩)
 have oQ:Y.env=compEnvC I (ext s3.zs++xZ X.env.cells I.names []) s3.zs X.env:=by subst hX;rfl
 rw[oQ]at iA;exact codeAny_compStart_list (iA _ rfl) (T.self _ 0 _ _ _ (T.keep _ _ _ i7 λb _ o e=>kg b o e) (iA _ rfl))
def Vh{J j:Φ}(E:U0 X I J ext fn)(z:X.calm)(B:Qo J X.N=j)(K:I.kind=.function)(G:∀y∈I.names,y.2=.local->I.names.lookup y.1=some .local)
 (L:∀y∈I.names,y.2=.free->X.env.kindOf y.1=some .cell\/X.env.kindOf y.1=some .free)(F:∀y∈X.N,y∉J->(relabel I X.env).names.lookup y≠some .local)(t:∀y∈X.N,y∈J->(relabel I X.env).names.lookup (hid y)=none)(v:PI X tg iter wi)
 (w:∀C c d i f,PG (X.compE ext fn j I J C c d i f) tg gt)(p:∀C c d i f,PTs (X.compE ext fn j I J C c d i f) aS tc)(x:∀C c d i f,PE (X.compE ext fn j I J C c d i f) be te)(r:zg X iter) :
  PE X (.ListComp be [⟨tg,iter,aS,0⟩] I N) (uP wi J.length gt tc te):=by
 intro U s O H Q a h;rw[eval_ListComp];exact Ql E z B K G L F t v w p x r a h λC D P l m R u M g q=>⟨m,u,λk n=>⟨.ref D,P,M.turned (it:=C) (h':=k) (t':=l.toks) (λb o A e=>(n.2 b A).trans e) g.1 g.2.1 g.2.2.2.1 g.2.2.2.2.1 g.2.2.2.2.2,rfl,q⟩⟩
section
variable{κ:Type}[DecidableEq κ]
def Mi(kvs:List (κ×V))(k:κ):xD:=(kvs.find? λa=>decide (a.1=k)).map (·.2)
def putK(kvs:List (κ×V))(k:κ)(v:V):List (κ×V) :=
 if(kvs.any λa=>decide (a.1=k))=true then kvs.map (λa=>if a.1=k then(a.1,v)else a)else kvs++[(k,v)]
def V6{p:κ×V}{r:List (κ×V)}{k:κ}(e:p.1=k):Mi (p::r) k=some p.2:=by simp[Mi,List.find?_cons,e]
def Ni{p:κ×V}{r:List (κ×V)}{k:κ}(e:¬p.1=k):Mi (p::r) k=Mi r k:=by simp[Mi,List.find?_cons,e]
def Vj(kvs:List (κ×V))(k:κ)(v:V):(putK kvs k v).length<=kvs.length+1:=by
 unfold putK;split
 .rw[ak];exact Xs _
 .rw[aA,length_cons,List.length_nil];exact aG _
def Cg.isSome_eq{u:Ω}(r:Cg o u):o.isSome=u.isSome:=by
 cases o with
 |none=>cases u with
  |none=>rfl
  |some _=>exact(show False from r).elim
 |some _=>cases u with
  |none=>exact(show False from r).elim
  |some _=>rfl
def Cg.getD{o:xD}{u:Ω}{d:V}{a:Value}(r:Cg o u)(rd:z4 d a):z4 (o.getD d) (u.getD a):=by
 cases o with
 |none=>cases u with
  |none=>exact rd
  |some _=>exact(show False from r).elim
 |some _=>cases u with
  |none=>exact(show False from r).elim
  |some _=>exact r
def KV.val{kvs:List (κ×V)}{d:List (κ×Value)}(r:KV kvs d)(k:κ):Cg (Mi kvs k) (valueAt d k):=by
 unfold KV at r
 induction r with
 |nil=>exact True.intro
 |@cons p q ps a h t g =>
  obtain⟨f,i⟩:=h;by_cases e:p.1=k
  .have c:q.1=k:=f.symm.trans e;have b:valueAt (q::a) k=some q.2:=by simp[valueAt,List.find?_cons,c]
   rwa[V6 e,b]
  .have c:¬q.1=k:=λz=>e (f.trans z);have b:valueAt (q::a) k=valueAt a k:=by simp[valueAt,List.find?_cons,c]
   rwa[Ni e,b]
def KV.any{kvs:List (κ×V)}{b:List (κ×Value)}(r:KV kvs b)(k:κ):(kvs.any λa=>decide (a.1=k))=b.any λa=>decide (a.1=k):=by
 unfold KV at r
 induction r with
 |nil=>rfl
 |cons h t c=>rw[any_cons,any_cons,c,h.1]
def KV.repl{kvs:List (κ×V)}{c:List (κ×Value)}(r:KV kvs c)(k:κ)(d:z4 y u) :
  KV (kvs.map λa=>if a.1=k then(a.1,y)else a) (c.map λa=>if a.1=k then(a.1,u)else a):=by
 unfold KV at r ⊢
 induction r with
 |nil=>exact .nil
 |@cons p q ps i h t f =>
  rw[map_cons,map_cons];refine .cons ?_ f;obtain⟨b,g⟩:=h;by_cases e:p.1=k
  .rw[ZY e,ZY (b.symm.trans e)];exact⟨b,d⟩
  .rw[ZZ e,ZZ (λz=>e (b.trans z))];exact⟨b,g⟩
def KV.put{kvs:List (κ×V)}{a:List (κ×Value)}(r:KV kvs a)(k:κ)(b:z4 y u):KV (putK kvs k y) (stored a k u):=by
 unfold putK stored;rw[r.any k];by_cases e:(a.any λc=>decide (c.1=k))=true
 .rw[ZY e,ZY e];exact r.repl k b
 .rw[ZZ e,ZZ e];exact Paired.snoc r ⟨rfl,b⟩
def KV.length{kvs:List (κ×V)}{a:List (κ×Value)}(r:KV kvs a):kvs.length=a.length:=Paired.length r
end
def Uz{k:bX}(r:z4 (kV k) u):(kJ P w).is k u:=by
 cases k with
 |inl i=>obtain⟨t,e⟩:=(show ∃t,u=Value.int i t from r);subst e;exact U6 P w i t
 |inr x=>obtain⟨t,e⟩:=(show ∃t,u=Value.str x t from r);subst e;exact WL P w x t
def OA{u:HO}(b:HOk P w H h)(e:Rd H a u):gG P w H h a u:=e.ok b
def Kp(c:HOk P w H h)(e:Rd H a (.dK kvs)):kvs.length<=sizeLine/\(a==sysModules)=false/\∃b,KV kvs b/\h.DictOf (kJ P w) a b :=
 show gG P w H h a (.dK kvs)from OA c e
def MY(c:HOk P w H h)(e:H a=some (.dK kvs)):kvs.length<=sizeLine/\(a==sysModules)=false/\∃b,KV kvs b/\h.DictOf (kJ P w) a b:=Kp c (.inl e)
def H_(H:Hp)(a:Addr)(y:V)(r:xD):Prop :=
 (∃kvs k,Rd H a (.dK kvs)/\y=kV k/\r=Mi kvs k)\/False
def y_(H:Hp)(a:Addr)(y v:V)(Y:Hp):Prop :=
 (∃kvs k,H a=some (.dK kvs)/\y=kV k/\kvs.length<sizeLine/\Y=upd H a (.dK (putK kvs k v)))\/False
def H_.k{H:Hp}{a:Addr}{kvs:xF}{k:bX}(e:H a=some (.dK kvs)):H_ H a (kV k) (Mi kvs k):=.inl ⟨kvs,k,.inl e,rfl,rfl⟩
variable{O:St}{Q:Ε}{h':Heap}{r:Value}{aI i:Expr}
def Inv.big(I:Inv X U O H s):sysModules<s.zs:=by
 have h:mainGlobals<s.zs:=(I.mod.glob.keeps I.bk).lt;exact UU wf h
def aay(r:A.units+1<cLine)(I:Inv X U O H s)(g:H_ H a y (some v))(i:z4 y u)(h:∀b d,Inv X U O H d->z4 v b->Q b d) :
  wpAny (model X.prog X.w) A (getItem (.ref a) u) Q E s:=by
 rcases g with⟨kvs,k,e,n,l⟩|m
 .subst n;obtain⟨z,hd,f,c,q⟩:=Kp I.hok e;obtain⟨b,j,p⟩:=Cg.some_of (v:=v) (o:=valueAt f k) (by rw[l];exact c.val k);exact wpAny_getItem_of (Uz i) q.mapOf j (h b _ (I.tok _) p)
 .exact m.elim
def Lv(n:A.units+1<cLine)(I:Inv X U O H s)(g:H_ H a y o)(d:z4 y u)(h:∀c,Inv X U O H c->Q (.bool o.isSome) c) :
  wpAny (model X.prog X.w) A (compareOp .In u (.ref a)) Q E s:=by
 rcases g with⟨kvs,k,e,i,l⟩|f
 .subst i;obtain⟨z,hd,m,b,j⟩:=Kp I.hok e;refine wpAny_in_of (Uz d) hd j.mapOf ?_;rw[<- (b.val k).isSome_eq,<- l];exact h _ (I.tok _)
 .exact f.elim
def UB(n:A.units+1<cLine)(I:Inv X U O H s)(g:H_ H a y o)(d:z4 y u)(h:∀c,Inv X U O H c->Q (.bool (!o.isSome)) c) :
  wpAny (model X.prog X.w) A (compareOp .NotIn u (.ref a)) Q E s:=by
 rcases g with⟨kvs,k,e,i,l⟩|f
 .subst i;obtain⟨z,hd,m,b,j⟩:=Kp I.hok e;refine wpAny_notIn_of (Uz d) hd j.mapOf ?_;rw[<- (b.val k).isSome_eq,<- l];exact h _ (I.tok _)
 .exact f.elim
def _c{g:Nat}{c:HO}(I:Inv X U O H s)(h:kt (H a))(i:Heap.SameBut a s.heap h')(j:∃q,h'.get? a=some q)(d:gG X.prog X.w (upd H a c) h' a c) :
  Inv X U O (upd H a c) { s with heap:=h',toks:=g } :=
 I.write (x:=a) (e:=a) h (.inl rfl) (λb q k z=>(i.2 b k).trans z) j d
def P4{b:List (bX×Value)}(z:kvs.length<=sizeLine)(hd:(a==sysModules)=false)(c:KV kvs b)(d:h'.DictOf (kJ P w) a b) :
  gG P w Y h' a (.dK kvs):=⟨z,hd,b,c,d⟩
def abg{Q:Unit->Shared->Prop}(F:A.units+1<cLine)(I:Inv X U O H s)(g:y_ H a y v Y)(i:z4 y u)(j:z4 v r)(h:∀d,Inv X U O Y d->Q () d) :
  wpAny (model X.prog X.w) A (setItem (.ref a) u r) Q E s:=by
 rcases g with⟨kvs,k,e,B,l,C⟩|x
 .subst B C;obtain⟨z,hd,f,b,D⟩:=MY I.hok e;have m:f.length<=sizeLine:=by rw[<- b.length];exact z
  have p:(putK kvs k v).length<=sizeLine:=by have:=Vj kvs k v;lia
  refine wpAny_setItem_pairs (hsz:=m) (Uz i) D λh' c n=>h _ ?_;have t:∃q,h'.get? a=some q:=by obtain⟨q,_,_,o,_⟩:=c;exact⟨q,o⟩
  exact _c I (by rw[e];exact True.intro) n t (P4 p hd (b.put k j) c)
 .exact x.elim
def o1(i:Expr):Prop:=∀a b,subscripted i false a b=operate [a,b] (getItem a b)
def _g{env:Env}{g:Expr}{T id:String}
 (m:typeLookup (.type T) "__getitem__"=pure (some (.builtin id)))(l:o1 g)
 (h:wpAny (model prog w) A (eval aI env) (λo d=>wpAny (model prog w) A (eval g env) (λi a=>a.TypeIs o T/\wpAny (model prog w) A (getItem o i) Q E a) E d) E s) :
  wpAny (model prog w) A (eval (.Subscript aI g N) env) Q E s:=by
 refine Subscript_ (wpAny_mono h (λo d f=>wpAny_mono f (λi a b=>?_) λ_ _ x=>x) λ_ _ x=>x);obtain⟨k,b⟩:=b;unfold subscriptTail;refine ZU ?_;rw[getitemInPython_of_ne k.not_modules];refine ZU (wpAny_specialOf k m ?_);have j:wpAny (model prog w) A (subscripted g false o i) (λr c=>wpAny (model prog w) A (letTemporaryGo aI o r >>= λ_=>pure r) Q E c) E a:=by
  rw[l o i];exact wpAny_operating (wpAny_mono b (λr c e=>ZU (wpAny_letTemporaryGo (ZT e))) λ_ _ x=>x)
 first
  |exact ZT (ZU j)
  |exact ZU (ZT (ZU j))
  |exact ZU j
def VD{X:Cx}(I:Inv X U O H s)(g:H_ H a y o):s.TypeIs (.ref a) "dict":=by
 rcases g with⟨kvs,k,e,_,_⟩|b
 .obtain⟨_,_,d,_,c⟩:=Kp I.hok e;exact c.typeIs
 .exact b.elim
def ND(d c:TE):TE:=λO H Q=>d O H λx Z=>c O Z λy b=>∃a v,x=.ref a/\H_ b a y (some v)/\Q v b
def IG(c d:TE):TE:=λO H Q=>c O H λy Z=>d O Z λx b=>∃a o,x=.ref a/\H_ b a y o/\Q (.bl o.isSome) b
def _F(c d:TE):TE:=λO H Q=>c O H λy Z=>d O Z λx b=>∃a o,x=.ref a/\H_ b a y o/\Q (.bl (!o.isSome)) b
def Nc(e c d:TE):TS:=λD O H=>d O H λv Z=>e O Z λx g=>c O g λy f=>∃a b,x=.ref a/\y_ f a y v b/\D.nx O b
variable{o:Expr}{td ty tv:TE}{bo:Pos}
def TL(j:X.A.units+1<cLine)(l:PE X o td)(m:PE X i ty)(k:o1 i):PE X (.Subscript o i N) (ND td ty):=by
 intro U s O H Q I h;refine _g PySem.F.slot_dict_getitem.lookup k (ah (l U s O H _ I h) λu c ⟨x,Z,t,e,f⟩=>ah (m U c O Z _ t f) λD C n=>?_);obtain⟨y,w,b,d,a,v,p,g,q2⟩:=n;subst p;obtain rfl:u=Value.ref a:=e;exact⟨VD b g,aay j b g d λz B r q=>⟨v,w,r,q,q2⟩⟩
def N9(j:X.A.units+1<cLine)(l:PE X i ty)(k:PE X o td):PC X .In i o (IG ty td):=by
 intro U s O H Q I h;refine ah (l U s O H _ I h) λz b ⟨y,Z,r,c,e⟩=>ah (k U b O Z _ r e) λu w m=>?_;obtain⟨x,t,q,d,a,f,n,g,q2⟩:=m;subst n;obtain rfl:u=Value.ref a:=d;exact Lv j q g c λv p=>⟨.bl f.isSome,t,p,rfl,q2⟩
def abv(j:X.A.units+1<cLine)(l:PE X i ty)(k:PE X o td):PC X .NotIn i o (_F ty td):=by
 intro U s O H Q I h;refine ah (l U s O H _ I h) λz b ⟨y,Z,r,c,e⟩=>ah (k U b O Z _ r e) λu w m=>?_;obtain⟨x,t,q,d,a,f,n,g,q2⟩:=m;subst n;obtain rfl:u=Value.ref a:=d;exact UB j q g c λv p=>⟨.bl (!f.isSome),t,p,rfl,q2⟩
def VE(l:X.A.units+1<cLine)(n:PE X o td)(p:PE X i ty)(k:PE X aI tv)(m:swapsWith aI (some (.Subscript o i bo)) N.line X.env=pure false) :
  PS X (.Assign [.Subscript o i bo] aI N) (Nc td ty tv):=by
 intro U s O H D I h;refine wpAny_Assign_Subscript (ah (k U s O H _ I h) λr c ⟨v,Z,C,f,j⟩=>ah (n U c O Z _ C j) λu b ⟨x,F,B,e,q2⟩=>ah (p U b O F _ B q2) λK J q=>?_) m;obtain⟨y,L,z,d,a,E,t,g,q3⟩:=q;subst t;obtain rfl:u=Value.ref a:=e;exact abg l z g d f λG w=>⟨O,E,w,q3⟩
def ab4(h:Heap)(a:sysModules<h.objs.size):gG P w H (h.push { cls:=.type "dict",data:=.dict #[] }) h.objs.size (.dK []) :=
 ⟨aZ _,beq_eq_false_iff_ne.mpr (Ne.symm (aQ a)),[],.nil,Heap.DictOf.new h⟩
def NH:TE:=λ_ H Q=>∀p,H p=none->Q (.ref p) (upd H p (.dK []))
def abV:PE X (.Dict [] [] N) NH:=λU s O H Q I h =>
 wpAny_Dict_empty ⟨.ref s.zs,_,I.laid (a:=s.zs) (o:=.dK []) (t':=s.toks) (λ_ _ q=>aH _ q) (aG _) (ab4 s.heap I.big),rfl,h _ (I.hok.fresh (aG _))⟩
abbrev VV:List (V×V)->List (Value×Value)->Prop:=Paired λp q=>z4 p.1 q.1/\z4 p.2 q.2
structure M2(X:Cx)(o:Expr)(m:Str)(ai:Pos)(e f:Expr)(af:Pos):Prop where
 base:zo X o m
 few:((backTo af (starEach [e,f] X.env)).all (λx=>!x.1)&&(backToKw af (keywordEach [] X.env)).all (λx=>x.1.isSome)
  && decide (([e,f] : xw).length+([] : wq).length+(if([] : wq).isEmpty then 0 else 1)<30))=true
 line:ze ai af
 trees:backTo af (starEach [e,f] X.env)=[(false,eval e X.env),(false,eval f X.env)]
def FI(H:Hp)(a:Addr):Prop:=(∃kvs,Rd H a (.dK kvs))\/False
def N3{X:Cx}(I:Inv X U O H s)(d:FI H a) :
  s.TypeIs (.ref a) "dict"/\(∀b,Value.ref a=.ref b->∃c,s.heap.get? b=some c/\c.dict=none)/\(a==sysModules)=false:=by
 rcases d with⟨kvs,e⟩|g
 .obtain⟨_,hd,j,_,f⟩:=Kp I.hok e;refine⟨f.typeIs,λb q=>?_,hd⟩;cases q;obtain⟨c,_,_,i,h,_⟩:=f;exact⟨c,i,h.2.1⟩
 .exact g.elim
variable{o:xD}{d:V}{f:Expr}
def RR(q:A.units+1<cLine)(I:Inv X U O H s)(g:H_ H a y o)(j:z4 y u)(rd:z4 d r)(h:∀c f,Inv X U O H f->z4 (o.getD d) c->Q c f) :
  wpAny (model X.prog X.w) A (call (.builtin "dict.get") [.ref a,u,r]) Q E s:=by
 rcases g with⟨kvs,k,e,n,l⟩|m
 .subst n;obtain⟨z,hd,p,b,i⟩:=Kp I.hok e;refine call_meetsIn PySem.F.slot_dict_get i.typeIs PySem.F.entry_dict_get (PySem.F.args_dict_get_3 _ _ _) (meets_dict_get_default (kJ X.prog X.w) a (Uz j) hd r) ⟨_,i.mapOf,h _ _ (I.tok _) ?_⟩;rw[l];exact(b.val k).getD rd
 .exact m.elim
def OY(td ty c:TE):TE:=λO H Q=>td O H λx Z=>∃a,x=.ref a/\FI Z a/\ty O Z λy d=>c O d λz b=>∃o,H_ b a y o/\Q (o.getD z) b
variable{o:Expr}{tx:TE}{pl:Sem Bool}{O:L2.St}
def _t(r:X.A.units+1<cLine)(t:PE X o td)(w:PE X e ty)(v:PE X f tx)(m:M2 X o "get" ai e f af):PE X (.Call (.Attribute o "get" ai) [e,f] [] af) (OY td ty tx):=by
 intro U s O H Q I h;refine wpAny_Call_method m.base m.few m.line PySem.F.plainAttrs_dict PySem.F.slot_dict_get PySem.F.type_dict_get (ah (t U s O H _ I h) λu k B=>?_);obtain⟨x,Z,b,p,a,C,d,q⟩:=B;subst C;obtain rfl:u=Value.ref a:=p;obtain⟨i,c,_⟩:=N3 b d;refine⟨i,c,?_⟩;rw[m.trees];refine Calls.callWith_builtin rfl (Calls.evalArgs_plain (Calls.spliced_cons (ah (w U k O Z _ b q) λS j ⟨y,L,J,n,q2⟩ =>
  Calls.spliced_cons (ah (v U j O L _ J q2) λT P ⟨z,K,G,l,R,g,q3⟩=>Calls.spliced_nil ?_))))
 exact RR r G g n l λM N E D=>⟨_,K,E,D,q3⟩
def mo(a:Addr)(o:Obj)(kvs:xF):It:=⟨λi H=>H a=some (.frz o (.dK kvs))/\i<kvs.length,λi H v Y=>Y=H/\∃k y,kvs[i]?=some (k,y)/\v=kV k,λi H=>H a=some (.frz o (.dK kvs))/\i=kvs.length⟩
def L9{k:bX}(h:(kJ P w).is k u):z4 (kV k) u:=by
 have h:Ed k u:=h;cases k with
 |inl i =>
  cases u<;>simp[Ed,Value.isInt]at h
  .subst h;exact⟨_,rfl⟩
 |inr x =>
  cases u<;>simp[Ed,Value.isStrOf]at h
  .subst h;exact⟨_,rfl⟩
def KV.at{a:Type}{kvs:List (a×V)}{b:List (a×Value)}(r:KV kvs b):∀{i:Nat}{k:a}{y:V},kvs[i]?=some (k,y)->∃u,b[i]?=some (k,u)/\z4 y u:=by
 unfold KV at r
 induction r with
 |nil=>intro i k y h;cases h
 |@cons p q ps g h t c =>
  intro i k y e;cases i with
  |zero =>
   rw[List.getElem?_cons_zero]at e;cases e;obtain⟨j,q2⟩:=q;obtain⟨f,d⟩:=h;cases f;exact⟨q2,rfl,d⟩
  |succ i =>
   rw[List.getElem?_cons_succ]at e ⊢;exact c e
def aaM(f a:Addr)(o:Obj)(kvs:xF)(t:List (bX×Value))(N:Nat)(m:KV kvs t)(M:∀h:Heap,h.get? a=some o->h.DictAt (kJ P w) a t N) :
  Turn P w K tg (mo a o kvs) [f] f (λi h=>h.IsKeyIter f a i t.length N) where
 mem:=by simp
 obj:=λi h st b l=>by
  have e:b=f:=by simpa using l
  subst e;obtain⟨o,g,_,hd⟩:=st;exact⟨o,g,λv z=>by rw[hd]at z;cases z⟩
 keep:=λi h h' st k=>let⟨o,g,r⟩:=st;⟨o,k f wr o g,r⟩
 item:=by
  intro X x hw A hc i U s O H E I q st j;subst x hw A;obtain⟨j,Z⟩:=j;obtain⟨g,_⟩:=(show gG X.prog X.w H s.heap a (.frz o (.dK kvs))from I.hok a _ j);obtain⟨G,F,W,D,C,B⟩:=q f wr;obtain⟨⟨k,y⟩,L⟩ : ∃p,kvs[i]?=some p:=⟨kvs[i],by simp[Z]⟩;obtain⟨u,T,ru⟩:=m.at L;refine wpAny_pyNext_dict_item st (M _ g) T λc8 h' S Q R=>?_;have I1:Inv X U O H { s with heap:=h' }:=I.turned (t':=s.toks) (λb J l e=>(R.2 b l).trans e) G F D C B;obtain⟨oi,e,c,d⟩:=id Q;exact⟨c8,rfl,VG (s:={ s with heap:=h' }) e c d wf ⟨kV k,H,I1,L9 S,⟨rfl,k,y,L,rfl⟩,Q,λb l=>(q b l).1⟩⟩
 done:=by
  intro X x hw A hc i U s O H E I q st j;subst x hw A;obtain⟨j,rfl⟩:=j;obtain⟨g,_⟩:=(show gG X.prog X.w H s.heap a (.frz o (.dK kvs))from I.hok a _ j);obtain⟨G,F,W,D,C,B⟩:=q f wr;have V:=m.length;exact wpAny_pyNext_dict_end (I.ok.hd hc) st (M _ g) (by simp;exact WG (Eq.symm V)) λh' Y=>⟨rfl,I.turned (t':=s.toks) (λb J l e=>Y b J l e) G F D C B⟩
 self:=λ_ _ _ _ _ st h=>wpAny_pyIter_keyiter st h
def MR(te:TE):TI:=λO H R=>te O H λx Z=>∃a kvs,x=.ref a/\Z a=some (.dK kvs)/\∀o,R (mo a o kvs) (upd Z a (.frz o (.dK kvs)))
def WE{l:Expr}{m:TE}(E:PE X l m):PI X tg l (MR m):=by
 intro U s O H R I h;refine ah (E U s O H _ I h) λv c F=>?_;obtain⟨x,Z,B,C,a,kvs,g,p,q⟩:=F;subst g;cases C;have D:=(show gG X.prog X.w Z c.heap a (.dK kvs)from B.hok a _ p);obtain⟨z,hd,i,d,o,es,j,e,g,A,y,f,t⟩:=D;have r:∀h:Heap,h.get? a=some o->h.DictAt (kJ X.prog X.w) a i j:=λh e=>⟨o,es,e,g,A,y,f,t⟩;have k:Inv X U O (upd Z a (.frz o (.dK kvs))) c:=by
  have:=B.write (x:=a) (e:=a) (o:=.frz o (.dK kvs)) (h':=c.heap) (t':=c.toks) (by rw[p];exact True.intro) (.inl rfl) (λb u n z=>z) ⟨o,e⟩ ⟨e,z,hd,i,d,o,es,j,e,g,A,y,f,t⟩;exact this
 refine wpAny_pyIter_dict hd (r _ e) ?_;refine⟨c.zs,[c.zs],_,mo a o kvs,_,rfl,k.kept (t':=c.toks) λb G z=>aH _ z,aaM _ a o kvs i j d r,⟨_,aW _ rfl,rfl,rfl⟩,λb n=>?_,q o⟩;have e:b=c.zs:=by simpa using n
 subst e;exact k.fpOk (aG _) (k.hok.fresh (aG _))
def gd(g:TG):TG:=λv O H Q=>∃R:L2.St->Hp->Prop,g v O H R/\∀a Y,R a Y->Q a Y
def gc(t:TT):TT:=λO H Q=>∃R:Bool->Hp->Prop,t O H R/\∀b Y,R b Y->Q b Y
def PG.mono{g:TG}(h:PG X e g):PG X e (gd g):=λU s O H v u Q I r b=>by obtain⟨R,d,c⟩:=b;exact ah (h U s O H v u R I r d) λ_ i b=>by obtain⟨a,Y,f,q⟩:=b;exact⟨a,Y,f,c a Y q⟩
def PTs.mono{t:TT}(h:PTs X aS t):PTs X aS (gc t):=λU s O H Q I a=>by obtain⟨R,d,c⟩:=a;exact ah (h U s O H R I d) λb f a=>by obtain⟨Y,e,q⟩:=a;exact⟨Y,e,c b Y q⟩
structure Ja(K:Frag)(B:Addr)(m:Str)(f:Addr):Prop where
 ga:specialIn K (.ref B) "__getattribute__"=some (some (.builtin "type.__getattribute__"))
 rd:readsIn K B (.type "type")
 at_:findCls K (.ref B) (.type "type") m=some (.val (.ref f))
 hd:handedIn (.ref f)
 kp:keepIn K (.ref f)
section
variable{X:Cx}{k:Nat}{f B:Addr}{fd:FuncData}{ps:Φ}{sp:Sp}{dm:Ζ}{ds:Θ}{x m:Str}{p N ai:Pos}{e:Expr}{es:xw}{t:TA}{Ex:Value->Ξ->L2.St->Hp->Prop}
def Ja.get{U:Δ}{O:L2.St}{H:Hp}{s:Shared}{pl:Sem Bool}{A:Around}{E:Ε}{Q:Value×Θ->Shared->Prop}(c:Ja X.K B m f)(I:Inv X U O H s)(h:∀t,Q (.ref f,[]) { s with toks:=t }) :
  wpAny (model X.prog X.w) A (getMethod (.ref B) m pl) Q E s :=
 PySem.W.method_cls I.kIn c.ga (PySem.W.cls_value I.kIn c.rd c.at_ c.hd (h _))
def _k(c:Ja X.K B m f)(F:bW X.prog X.w X.K X.mg X.base ab k f fd ps sp)(l:dX k X.A)(o:Gl X x)(n:X.mg x=some (.ref B))(q:Binds X.K fd ps [])(u:PA X (e::es) t)(v:qV x:=by decide)
 (y:qS X e es:=by rfl)(z:qE X N es:=by rfl)
 (j:eval (.Call (.Attribute (.Name x p) m ai) (e::es) [] N) X.env=(do
   let d <- eval (.Name x p) X.env
   standAt ai.atName
   let(f,first) <- holding [d] (getMethod d m pl)
   callWith N f first (backTo N (starEach (e::es) X.env)) (backToKw N (keywordEach [] X.env))):=by rfl) :
  PE X (.Call (.Attribute (.Name x p) m ai) (e::es) [] N) (W_ sp t):=by
 intro U s O H Q I h;refine methodCall_KW (pl:=pl) (FW I o n (c.get I λi=>?_) v) j;refine callWith_K (first:=[]) (h₀:=X.base) I.ok.mod.kin c.kp (ah (u N U _ O H _ (I.tok i) h) λb C ⟨a,D,g,r,q2⟩=>⟨g.kIn,?_⟩) y z;exact Nm (us:=b) (vs:=a) F l q .nil Pk g r (by rw[append_nil];exact q2)
end
def z0.tup{K:Frag}{H Y:Hp}{a:Addr}{J:Ζ}(e:z0 H Y)(h:SqT K H a J):SqT K Y a J:=by
 rcases h with(h|⟨o,h⟩)|h
 .exact .inl (.inl (e _ _ h))
 .exact .inl (.inr ⟨o,e _ _ h⟩)
 .exact .inr h
mutual
inductive iQ(K:Frag)(H:Hp):V->PyData->Prop
 |non:iQ K H .non .none
 |bl (b:Bool):iQ K H (.bl b) (.bool b)
 |int (i:Int):iQ K H (.int i) (.int i)
 |str (x:Str):iQ K H (.str x) (.str x)
 |lst {a:Addr}{J:Ζ}{ds:xa} : H a=some (.lst J)->fQ K H J ds->iQ K H (.ref a) (.list ds)
 |tup {a:Addr}{J:Ζ}{ds:xa} : SqT K H a J->fQ K H J ds->iQ K H (.ref a) (.tuple ds)
inductive fQ(K:Frag)(H:Hp):Ζ->xa->Prop
 |nil:fQ K H [] []
 |cons {x:V}{J:Ζ}{d:PyData}{ds:xa} : iQ K H x d->fQ K H J ds->fQ K H (x::J) (d::ds)
end
mutual
theorem iQ.same{K:Frag}{H Y:Hp}(S:z0 H Y):∀{x:V}{d:PyData},iQ K H x d->iQ K Y x d
 |_,_,.non=>.non
 |_,_,.bl b=>.bl b
 |_,_,.int i=>.int i
 |_,_,.str x=>.str x
 |_,_,.lst e h=>.lst (S _ _ e) (fQ.same S h)
 |_,_,.tup e h=>.tup (S.tup e) (fQ.same S h)
theorem fQ.same{K:Frag}{H Y:Hp}(S:z0 H Y):∀{J:Ζ}{a:xa},fQ K H J a->fQ K Y J a
 |_,_,.nil=>.nil
 |_,_,.cons h t=>.cons (iQ.same S h) (fQ.same S t)
end
mutual
theorem Inv.readsK(I:Inv X U O H s):∀{x:V}{d:PyData}{v:Value},iQ X.K H x d->z4 x v->∃g,Reads s.heap v d g
 |_,_,_,.non,r=>by cases r;exact⟨_,.none⟩
 |_,_,_,.bl b,r=>by cases r;exact⟨_,.bool b⟩
 |_,_,_,.int i,r=>by obtain⟨t,rfl⟩:=r;exact⟨_,.int i t⟩
 |_,_,_,.str x,r=>by obtain⟨t,rfl⟩:=r;exact⟨_,.str x t⟩
 |_,_,_,.lst e h,r=>by
  cases r;obtain⟨c,a,⟨o,f,hc,n,hd⟩⟩:=I.lstIs e;obtain⟨g,q⟩:=Inv.readsAllK I h a;exact⟨_,.list f hc hd q⟩
 |_,_,_,.tup e h,r=>by
  cases r;obtain⟨c,a,⟨o,f,hc,n,hd⟩,_⟩:=I.tuple e;obtain⟨g,q⟩:=Inv.readsAllK I h a;exact⟨_,.tuple f hc hd q⟩
theorem Inv.readsAllK(I:Inv X U O H s):∀{J:Ζ}{d:xa}{c:Θ},fQ X.K H J d->z5 J c->∃i,ReadsAll s.heap c d i
 |_,_,_,.nil,r=>by cases r;exact⟨_,.nil⟩
 |_,_,_,.cons h t,r=>by
  cases r with
  |cons f e =>
   obtain⟨a,g⟩:=Inv.readsK I h f;obtain⟨b,q2⟩:=Inv.readsAllK I t e;exact⟨_,.cons g q2⟩
end
def om(K:Frag)(a:Bool):R2:=λx y H Q=>∃d e,iQ K H x d/\iQ K H y e/\SeqAt.shaped d/\SeqAt.shaped e/\Q (.bl (if a then !PyData.eqv d e else PyData.eqv d e)) H
def OL(j:X.A.units+64<cLine):OpR X (compareOp .Eq) (om X.K false):=by
 intro U s O H x y v u Q I f c h;obtain⟨d,e,hd,k,b,a,q⟩:=h;obtain⟨m,i⟩:=I.readsK hd f;obtain⟨l,g⟩:=I.readsK k c;exact SeqAt.compareEq_shaped i g b a j ⟨.bl _,H,I,rfl,q⟩
def O'(j:X.A.units+64<cLine):OpR X (compareOp .NotEq) (om X.K true):=by
 intro U s O H x y v u Q I f c h;obtain⟨d,e,hd,k,b,a,q⟩:=h;obtain⟨m,i⟩:=I.readsK hd f;obtain⟨l,g⟩:=I.readsK k c;exact SeqAt.compareNe_shaped i g b a j ⟨.bl _,H,I,rfl,q⟩
def YE(K:Frag):Ζ->Hp->VK->Prop:=λJ H Q=>∃p T a,J=[.ref p,.ty T]/\T∈["bool","int","str","list","tuple","dict"]/\SqT K H p a/\Q (.bl (Rf "tuple" T)) H
def UG:kW X (.builtin "isinstance") (YE X.K):=by
 intro U s O H J k Q I r h;obtain⟨p,T,j,rfl,i,f,q⟩:=h;obtain⟨u,v,rfl,d,c⟩:=r.two;cases d;cases c;obtain⟨e,b,⟨o,g,hc,n,hd⟩,_⟩:=I.tuple f;refine kia_one (kitx_tuple (a:=p)) I.kIn ⟨o,g,hc⟩ (ZP (K:=X.K) (t:="tuple") wf i) (λz=>nomatch z) λl=>⟨.bl _,H,I.tok _,rfl,q⟩
def OkI(P:Program)(w:World)(K:Frag)(mg:Str->Ω)(base:Heap)(a:eS)(k:Nat)(f:Addr)(ps:Φ)(sp:Sp):Prop:=∃fd,bW P w K mg base a k f fd ps sp/\Binds K fd ps []
def Ce(K:Frag)(x qual:Str)(st:Stmt)(ps:Φ)(f:Addr):Prop:=∃fd,Fun K x qual st f fd/\∀a:Θ,a.length=ps.length->bindArgs fd ⟨a,[]⟩=pure (ps.zip a)
variable{f c c0 Pt fR:Addr}{k i kL:Nat}{o:Obj}{p:Pos}{x0 y:Str}{vs:Ζ}{cl:xb}{params:Arguments}{body:Expr}{as L:Ψ}{js:xE}{spL:Ζ->Sp}{spR:Ζ->Addr->Sp}
def Ce.ok{c:eS}(h:Ce K x qual st ps f)(d:∀fd,Fun K x qual st f fd->bW P w K mg base c k f fd ps sp):OkI P w K mg base c k f ps sp :=
 by obtain⟨fd,a,b⟩:=h;exact⟨fd,d fd a,.all b⟩
def YN{h e:Ξ}{kV d a b:Value}
 (l:K.lookup f=some ⟨oc,h,.func (PySem.W.fnOf x qual (h_ st) (dZ st) (bG st) .none kV d pm e a b),dQ⟩)(c:codeIn K a qual)(k:keepIn K (.ref f))
 (i:∀(kV d pm:Value)(e:Ξ)(a b:Value)(g:Θ),g.length=ps.length->bindArgs (PySem.W.fnOf x qual (h_ st) (dZ st) (bG st) .none kV d pm e a b) ⟨g,[]⟩=pure (ps.zip g)):Ce K x qual st ps f :=
 ⟨_,YG l c k,i kV d pm e a b⟩
section
variable{X:Cx}{k:Nat}{f C B:Addr}{ps:Φ}{sp:Sp}{x m:Str}{p N ai:Pos}{e o:Expr}{es:xw}{ta:TE}{t:TA}{Ex:Value->Ξ->L2.St->Hp->Prop}
def EL(C:Addr)(m:Str)(sp:Sp)(ta:TE)(t:TA):TE:=λO H Q=>ta O H λx Z=>∃a c b,x=.ref a/\Z a=some (.ins C c b)/\b.lookup m=none/\t O Z λvs d=>sp (x::vs) d Q E0
abbrev zC(X:Cx):=OkI X.prog X.w X.K X.mg X.base
def _w(j:PE X o ta)(c:Cls X.K C)(i:Meth X.K C m f)(G:zC X ab k f ps sp)(g:dX k X.A)(n:PA X (e::es) t)
 (y:qS X e es:=by rfl)(z:qE X N es:=by rfl)
 (d:eval (.Call (.Attribute o m ai) (e::es) [] N) X.env=(do
   let b <- eval o X.env
   standAt ai.atName
   let(f,first) <- holding [b] (getMethod b m pl)
   callWith N f first (backTo N (starEach (e::es) X.env)) (backToKw N (keywordEach [] X.env))):=by rfl) :
  PE X (.Call (.Attribute o m ai) (e::es) [] N) (EL C m sp ta t):=by
 obtain⟨fd,F,l⟩:=G;refine(_o (pl:=pl) j.mono c i F g l .nil Pk n.mono y z d).imp λO H Q h=>⟨_,h,?_⟩;rintro x Z ⟨a,w,v,u,s,r,p⟩;refine⟨a,w,v,u,s,r,_,p,λvs B q=>?_⟩;show sp (x::(vs++[])) B Q E0;rw[append_nil];exact q
def abA(i:PE X o ta)(c:Cls X.K C)(g:Meth X.K C m f)(G:zC X ab k f ps sp)(e:dX k X.A)
 (d:eval (.Call (.Attribute o m ai) [] [] N) X.env=(do
   let b <- eval o X.env
   standAt ai.atName
   let(f,first) <- holding [b] (getMethod b m pl)
   callWith N f first (backTo N (starEach [] X.env)) (backToKw N (keywordEach [] X.env))):=by rfl) :
  PE X (.Call (.Attribute o m ai) [] [] N) (EL C m sp ta n7):=by
 obtain⟨fd,F,j⟩:=G;refine(_z (pl:=pl) i.mono c g F e j .nil Pk d).imp λO H Q h=>⟨_,h,?_⟩;rintro x Z ⟨a,s,r,q,p,n,l⟩;exact⟨a,s,r,q,p,n,l⟩
def adI{D:Addr}{N:Pos}(b:Gl X x)(a:X.mg x=some (.ref D))(hd:qV x:=by decide):PE X (.Name x N) (tC (.ref D)):=Fa b a rfl hd
end
def PB{a:Obj}(e:(h.push o).get? b=some a)(c:b≠h.objs.size):h.get? b=some a:=by
 obtain⟨f,d⟩:=Heap.get?_some_iff.mp e;refine Heap.get?_some_iff.mpr ⟨?_,d⟩;cases h;simpa[Heap.push,Array.getElem?_push,c]using f
theorem UW:∀{c:Φ}{vs:Θ},z5 (c.map V.str) vs->StrsAre vs c
 |[],_,h=>by cases h;exact .nil
 |y::c,_,h=>by
  rw[map_cons]at h;cases h with
  |cons a b =>
   obtain⟨t,rfl⟩:=a;exact .cons y t (UW b)
def rJoin:V->Ζ->Hp->VK->Prop:=λx vs H Q=>∃a l b,x=.str a/\vs=[.ref l]/\H l=some (.lst (b.map V.str))/\(b.map (·.length)).sum+b.length*a.length<=16777216/\Q (.str (Txt.join a b)) H
def Vi:mj X "str.join" rJoin:=by
 intro U s O H x vs v m Q I b c h;obtain⟨a,l,j,rfl,rfl,i,g,q⟩:=h;obtain⟨t,rfl⟩:=b;obtain⟨u,rfl,d⟩:=c.one;cases d;obtain⟨_,f,n,r,_,e⟩:=I.lstM i;exact join_list ⟨_,e,rfl,n,rfl⟩ (by simpa using UW r) g λo k=>⟨.str _,H,I.tok _,⟨_,rfl⟩,q⟩
def adE{r:Nat}{f:Str}{g K:Pos}{J p:Φ}(E:U0 X I J ext fn)(hc:X.calm)(hJ:Qo J X.N=p)(c5:I.kind=.function)(dk:∀y∈I.names,y.2=.local->I.names.lookup y.1=some .local)
 (bP:∀y∈I.names,y.2=.free->X.env.kindOf y.1=some .cell\/X.env.kindOf y.1=some .free)(gi:∀y∈X.N,y∉J->(relabel I X.env).names.lookup y≠some .local)(t:∀y∈X.N,y∈J->(relabel I X.env).names.lookup (hid y)=none)(W:PI X tg iter wi)
 (Y:∀C c d l j,PG (X.compE ext fn p I J C c d l j) tg gt)(T:∀C c d l j,PTs (X.compE ext fn p I J C c d l j) aS tc)(he:∀C c d l j,PE (X.compE ext fn p I J C c d l j) be te)(gX:PG X (.Name f g) (Cj r))(gT:swapsWith (.ListComp be [⟨tg,iter,aS,0⟩] I N) (some (.Name f g)) K.line X.env=pure true)(V:zg X iter) :
  PS X (.Assign [.Name f g] (.ListComp be [⟨tg,iter,aS,0⟩] I N) K) (lq (uP wi J.length gt tc te) (Cj r)):=by
 intro U s O H w a h;have h:uP wi J.length gt tc te O H (λx Z=>Cj r x O Z w.nx):=h;rw[exec_Assign_Name_used _ _ _ _ gT];refine ZU (wpAny_standAt (ZU ?_));show wpAny _ X.A (comprehension (.ListComp be [⟨tg,iter,aS,0⟩] I N) I X.env _ (newList []) false (eval iter X.env) (some (assign (.Name f g) X.env)) >>= λ_=>_) _ _ s;refine ZU (wpAny_mono (Ql (use:=some (assign (.Name f g) X.env)) (post:=λ_ F=>SP X U w .next F) E hc hJ c5 dk bP gi t W Y T he V a h λC D Hc B m fl G I6 n P=>?_) (λ_ F t=>ZT (ZT t)) λ_ _ e=>e);obtain⟨oc,es,ep,u,S,_⟩:=id G;have I7:=I6.pinned (fp:=[C]) (λb k=>by rwa[YR.mp k]) λb k=>by
  rw[YR.mp k];exact⟨oc,u,λv z=>by rw[S]at z;cases z⟩
 show wpAny _ X.A (assign (.Name f g) X.env _) _ _ B;refine ah (gX _ B O Hc (.ref D) _ w.nx I7 rfl P) λ_ M hP=>?_;obtain⟨q,H7,L,Q⟩:=hP;have i:=L.pin (C,oc) (aP _ (aP _ (sE wr u)));refine⟨m,G.at' λo e=>?_,λh' R=>⟨q,H7,L.unpinned.turned (it:=C) (h':=h') (t':=M.toks) (λb o k e=>(R.2 b k).trans e) i.2.1 n.2.1 n.2.2.2.1 n.2.2.2.2.1 n.2.2.2.2.2,Q⟩⟩;rw[u]at e;cases e;exact i.1
def Inv.turnedL{t':Nat}{ch:Ψ}(I:Inv X U O H s)(k:∀b o,b∉ch->s.heap.get? b=some o->h'.get? b=some o)(a:∀b∈ch,Ji X U H b):Inv X U O H { s with heap:=h',toks:=t' }:=by
 have f:∀b u,H b=some u->b∉ch:=λb u e z=>by rw[(a b z).1]at e;cases e
 refine I.step (g':=s.gens) (d':=s.drawn) (ch:=ch) (λb d=>⟨(a b d).2.2.2.1,(a b d).2.1,(a b d).2.2.2.2.1,(a b d).2.2.2.2.2⟩) (λb o _ _ hc e _=>k b o hc e) (λb o _ _ hc e _=>⟨o.slots,k b o hc e⟩) (λ_ _ _ _ n=>n) (λb o hc e=>⟨o,k b o hc e⟩) (λ_ _ e=>e) (λ_ _ _ e=>e) (λb ps e=>⟨#[],by rw[e];simp⟩) (λm i=>?_) (λb u e=>?_) I.bare
 .obtain⟨o,es,j,h,r⟩:=i;exact⟨o,es,j,k _ o (λz=>(a _ z).2.1 rfl) h,r⟩
 .refine(I.hok b u e).stay (λc v hc q=>k c v ?_ q) (λ_ q=>q) λ_ _ q=>q;rcases hc with z|z
  .rw[z];exact f b u e
  .exact f c _ z
def ql(a b:Addr):It:=⟨λi H=>∃J c,H a=some (.lst J)/\H b=some (.lst c)/\i<J.length/\i<c.length,λi H v Y=>∃J c x y t,H a=some (.lst J)/\H b=some (.lst c)/\J[i]?=some x/\c[i]?=some y/\H t=none/\v=.ref t/\Y=upd H t (.tup [x,y]),λi H=>∃J c,H a=some (.lst J)/\H b=some (.lst c)/\(J.length<=i\/c.length<=i)⟩
def rA{g:Heap}{l:Addr}(x:h.IsListIter a l i)(k:∀o,h.get? a=some o->g.get? a=some o):g.IsListIter a l i:=by obtain⟨o,e,r⟩:=x;exact⟨o,k o e,r⟩
def Q9{vs:Θ} : z5 J vs->∀{i:Nat}{x:V},J[i]?=some x->∃u,vs[i]?=some u/\z4 x u:=by
 intro h
 induction h with
 |nil=>intro i x e;cases e
 |cons a b c =>
  intro i x e;cases i with
  |zero=>rw[List.getElem?_cons_zero]at e;cases e;exact⟨_,rfl,a⟩
  |succ i=>rw[List.getElem?_cons_succ]at e ⊢;exact c e
def ab1{x1}(z TI TO j g Y W:Addr)(D:ZipApart z TI TO j g Y W) :
  Turn P w K (.Tuple cx x1 N) (ql Y W) [z,TI,TO,j,g] z (λi h=>IsZip h z TI TO .none/\IsPair h TI (.ref j) (.ref g)/\(∃p q,IsPair h TO p q)/\h.IsListIter j Y i/\h.IsListIter g W i) where
 mem:=by simp
 obj:=by
  rintro i h ⟨f,l,⟨p,q,A⟩,⟨o4,t,_,d4⟩,⟨o5,r,_,d5⟩⟩ b d;simp only[YU,US,or_false]at d;rcases d with rfl|rfl|rfl|rfl|rfl
  .exact⟨_,f,λv e=>by cases e⟩
  .exact⟨_,l,λv e=>by cases e⟩
  .exact⟨_,A,λv e=>by cases e⟩
  .exact⟨_,t,λv e=>by rw[d4]at e;cases e⟩
  .exact⟨_,r,λv e=>by rw[d5]at e;cases e⟩
 keep:=λi h h' ⟨f,l,⟨p,q,A⟩,t,r⟩ k=>⟨k z wr _ f,k TI wr _ l,⟨p,q,k TO wr _ A⟩,rA t (k j wr),rA r (k g wr)⟩
 item:=by
  intro X hP hw hK hc i U s O H E I F st hg;subst hP hw hK;obtain⟨f,l,⟨p,q,A⟩,t,r⟩:=st;obtain⟨J,m,G,d,nE,S⟩:=hg;obtain⟨_,f',R,g7,V,g1⟩:=I.lstM G;obtain⟨_,Z,Q,i8,T,g2⟩:=I.lstM d;have ex:J[i]?=some J[i]:=aj nE;have ey:m[i]?=some m[i]:=aj S;obtain⟨u,hu,ru⟩:=Q9 g7 ex;obtain⟨v,hv,rv⟩:=Q9 i8 ey;refine wpAny_pyNext_zip_item D f l A t r (xs:=f'.toArray) (ys:=Z.toArray) ⟨_,g1,rfl,R,rfl⟩ ⟨_,g2,rfl,Q,rfl⟩ (x:=u) (y:=v) (by simpa using hu) (by simpa using hv) λh' a1 a2 a3 a4 a5 a6 a7=>⟨_,rfl,?_⟩;refine wpAny_letOwnedTupleGo_zip a1 λh2 g6 sb=>?_;have nt:H s.zs=none:=I.fresh;have I1:=I.laid (a:=s.zs) (o:=.tup [J[i],m[i]]) (h':=s.heap.push { cls:=.type "tuple",data:=.seq #[u,v] }) (t':=s.toks) (λb q z=>aH _ z) (aG _)
   ⟨(by show 2<=sizeLine;decide),[u,v],.cons ru (.cons rv .nil),_,aW _ rfl,rfl,_,rfl⟩
  have nz:z≠s.zs:=aQ (aK f);have nO:TO≠s.zs:=aQ (aK A);have nI:TI≠s.zs:=aQ (aK l);have nh:j≠s.zs:=by obtain⟨o,e,_⟩:=t;exact aQ (aK e)
  have M:g≠s.zs:=by obtain⟨o,e,_⟩:=r;exact aQ (aK e)
  have kM:∀b∈[z,TI,TO,j,g],upd H s.zs (.tup [J[i],m[i]]) b=none:=by
   intro b d;have B:=(F b d).1;simp only[YU,US,or_false]at d;rcases d with rfl|rfl|rfl|rfl|rfl
   .exact(cA nz).trans B
   .exact(cA nI).trans B
   .exact(cA nO).trans B
   .exact(cA nh).trans B
   .exact(cA M).trans B
  have I2:=I1.turnedL (ch:=[z,TO,j,g]) (h':=h2) (t':=s.toks) (λb L d e=>by
   simp only[YU,US,or_false,not_or]at d;obtain⟨b1,b2,b3,b4⟩:=d;refine(sb.2 b b1).trans ?_;by_cases hs:b=s.zs
   .subst hs;have e2:=aW s.heap (o:={ cls:=.type "tuple",data:=.seq #[u,v] }) rfl;have e:(s.heap.push { cls:=.type "tuple",data:=.seq #[u,v] }).get? s.zs=some L:=e;rw[e2]at e;cases e;exact a5
   .exact a7 b _ b1 b2 b3 b4 (PB e hs)) λb d=>by
    have db:b∈[z,TI,TO,j,g]:=by
     simp only[YU,US,or_false]at d ⊢;rcases d with h|h|h|h<;>simp[h]
    exact⟨kM b db,(F b db).2⟩
  have C:∀c o,c≠z->h'.get? c=some o->h2.get? c=some o:=λc o n e=>(sb.2 c n).trans e;exact⟨.ref _,_,I2,rfl,⟨J,m,_,_,_,G,d,ex,ey,nt,rfl,rfl⟩,⟨g6,C _ _ D.TIz (a7 _ _ D.TIz D.TITO D.TIi1 D.TIi2 l),⟨_,_,C _ _ D.TOz a2⟩,rA a3 λo e=>C _ _ D.i1z e,rA a4 λo e=>C _ _ D.i2z e⟩,kM⟩
 done:=by
  intro X hP hw hK hc i U s O H E I F st hg;subst hP hw hK;obtain⟨f,l,⟨p,q,A⟩,t,r⟩:=st;obtain⟨J,m,G,d,lt⟩:=hg;obtain⟨_,f',R,g7,V,g1⟩:=I.lstM G;obtain⟨_,Z,Q,i8,T,g2⟩:=I.lstM d;refine wpAny_pyNext_zip_end (I.ok.hd hc) D f l A t r (xs:=f'.toArray) (ys:=Z.toArray) ⟨_,g1,rfl,R,rfl⟩ ⟨_,g2,rfl,Q,rfl⟩ (by simp;lia) λh' k=>⟨rfl,I.turnedL (ch:=[z,TO,j,g]) (t':=s.toks) (λb L d e=>?_) λb d=>?_⟩
  .simp only[YU,US,or_false,not_or]at d;exact k b L d.1 d.2.1 d.2.2.1 d.2.2.2 e
  .exact F b (by
    simp only[YU,US,or_false]at d ⊢;rcases d with h|h|h|h<;>simp[h])
 self:=λ_ _ _ _ _ ⟨f,_⟩ h=>wpAny_pyIter_zip f h
def abJ(n b a:Nat)(d:b<n)(c:a<n):ZipApart (n+4) (n+2) (n+3) n (n+1) b a:=by
 constructor<;>first|exact aQ (by omega)|exact UK wp
def _Q(n b:Nat)(h:b=n+4\/b=n+2\/b=n+3\/b=n\/b=n+1):n<=b:=by lia
def boot_zip:bootBuiltins "zip"=some (.type "zip"):=by decide +kernel
def IR(d:TA):TI:=λO H R=>d O H λvs Z=>∃a b J c,vs=[.ref a,.ref b]/\Z a=some (.lst J)/\Z b=some (.lst c)/\R (ql a b) Z
def Sf{a b:Expr}{f:TA}{w}{W:Pos}(M:Gl X "zip")(L:X.mg "zip"=none)(P:PA X [a,b] f)(K:starEach [a,b] X.env=[(false,eval a X.env),(false,eval b X.env)]:=by rfl)(l:starEach [b] X.env=[(false,eval b X.env)]:=by rfl) :
  PI X (.Tuple cx w W) (.Call (.Name "zip" p) [a,b] [] N) (IR f):=by
 intro U s O H R I h;refine Call_ (DR I M L boot_zip (PyProof.Rows.callWith_type1 (ah (P N U s O H _ I h) λus c Q=>?_) (by rw[K,l]) (by rw[l];rfl)));obtain⟨vs,Z,d,z,A⟩:=Q;obtain⟨i,g,J,t,e,T,S,q⟩:=A;subst e;obtain⟨u,v,rfl,y,x⟩:=z.two;cases y;cases x;obtain⟨_,V,D,g7,F,g1⟩:=d.lstM T;obtain⟨_,G,C,i8,E,k⟩:=d.lstM S;have r:=aK g1;have o:=aK k;refine call_zip_2 (xs:=V.toArray) (ys:=G.toArray) ⟨_,g1,rfl,D,rfl⟩ ⟨_,k,rfl,C,rfl⟩ λh' n a2 a3 a4 a5 a6 Y=>?_;refine wpAny_pyIter_zip n ?_;refine⟨_,[c.zs+4,c.zs+2,c.zs+3,c.zs,c.zs+1],_,ql i g,Z,rfl,d.kept (t':=c.toks) λb B e=>Y b B e,ab1 _ _ _ _ _ i g (abJ _ _ _ r o),⟨n,a2,⟨_,_,a3⟩,a4,a5⟩,λb j=>?_,q⟩;have m:c.zs<=b:=by
  simp only[YU,US,or_false]at j;exact _Q _ _ j
 exact d.fpOk m (d.hok.fresh m)
def mE(b I:Scope):Scope:={ I with names:=I.names.map λ(n,k)=>if(k==NameKind.free&&b.kind == .function&&b.names.lookup n==some .cell)then(n,NameKind.cell)else(n,k) }
theorem E8(c:Nat):∀(n:Nat)(a:Array Nat),((replicate n #[c]).foldl (· ++ ·) a).toList=a.toList++replicate n c
 |0,a=>by simp
 |n+1,a=>by
  rw[replicate_succ,foldl_cons,E8 c n,Array.toList_append,WV]
  rfl
def M0:R2:=λx y H Q=>∃c n,x=.str ⟨#[c]⟩/\y=.int n/\1<=n/\n<=1000/\∀z:Str,z.cps.toList=replicate n.toNat c->Q (.str z) H
def _E:OpR X (binaryOp .Mult) M0:=by
 intro U s O H x y v u Q I i g h;obtain⟨c,n,rfl,rfl,l,k,q⟩:=h;obtain⟨t,rfl⟩:=i;obtain⟨j,rfl⟩:=g;have b:(⟨#[c]⟩ : Str).length=1:=rfl;have a:∀z:Str,z.cps.toList=replicate n.toNat c->(Made.str z).post (EP X U O Q) s:=λz d=>⟨by
  have:z.length=n.toNat:=by
   show z.cps.size=_;rw[<- Array.length_toList,d,aN]
  exact aL (show z.length<=1001 by lia) wf,.str z,H,I.tok _,⟨_,rfl⟩,q z d⟩
 refine PySem.P.mul_str ?_ (λ_ _=>?_) (λ_ _=>?_) ?_
 .rw[Zp wp,Zp wp];rfl
 .rw[b];have:1<=(2^63-1:Int)/n:=Int.le_ediv_of_mul_le (by omega) wp;lia
 .rw[b];unfold Builtin.Str.tooLong;exact Zp (by
   have:n.toNat<=1000:=by lia
   have e:1000<=sizeLine:=by decide
   lia)
 .split
  .lia
  .split
   .rename_i f
    rw[b]at f;have e:n.toNat=1:=by
     simp at f;lia
    refine⟨.str ⟨#[c]⟩,H,I,⟨t,rfl⟩,q _ ?_⟩;rw[e];rfl
   .refine a _ ?_;show((replicate n.toNat #[c]).foldl (· ++ ·) #[]).toList=_;rw[E8];rfl
def Cx.compGC(X:Cx)(a:Φ)(I:Scope)(x0:Str)(C:Addr)(s₀:Shared)(H₀:Hp)(ex:Ψ)(pn:Δ):Cx :=
 { X with env:=compEnvC I ((x0,C+1)::xZ X.env.cells I.names []) C X.env,N:=[x0]++a,s₀:=s₀,H₀:=H₀,outer:=X.stack,ex:=ex,fn:=λz=>z==x0,pn:=pn,xe:=λ_ _=>False }
theorem Cp{env:Env}{x0:Str} : ∀{a:xN}{y:Str},y≠x0->((a.map λ(n,k)=>if(k==NameKind.free&&env.scope.kind == .function&&env.kindOf n==some .cell)then(n,NameKind.cell)else(n,k)).lookup y=some .cell \/
  (a.map λ(n,k)=>if(k==NameKind.free&&env.scope.kind == .function&&env.kindOf n==some .cell)then(n,NameKind.cell)else(n,k)).lookup y=some .free)->(∀z∈a,z.2=.cell->z.1=x0)->(y,NameKind.free)∈a
 |[],y,_,h,_=>by rcases h with h|h<;>cases h
 |(n,k)::r,y,d,h,hc=>by
  have f:=@Cp env x0 r y d;have g:∀z∈r,z.2=.cell->z.1=x0:=λz i=>hc z (aJ _ i);simp only[map_cons]at h;by_cases b:(k==NameKind.free&&env.scope.kind == .function&&env.kindOf n==some .cell)
  .rw[ZY b]at h;have j:k=.free:=by
    simp only[and_eq_true,beq_iff_eq]at b;exact b.1.1
   subst j;simp only[lookup_cons]at h;cases c:y==n with
   |true=>rw[show y=n by simpa using c];exact aO
   |false=>rw[c]at h;exact aJ _ (f h g)
  .rw[ZZ b]at h;simp only[lookup_cons]at h;cases c:y==n with
   |true =>
    have e:y=n:=by simpa using c
    rw[c]at h;rcases h with h|h
    .cases h;exact absurd (e.trans (hc (n,.cell) aO rfl)) d
    .cases h;rw[e];exact aO
   |false=>rw[c]at h;exact aJ _ (f h g)
def N5{M:Model}{a:Addr}{k:xb}{c:Env}{Q:Env->Shared->Prop}(u:∀n f,cellsFrom n I.names f=(x0,n)::f)(t:∀h,pushCells h I.names=h.push { cls:=.type "cell",data:=.cell none })
 (r:∀g,g.Ns s.zs (λx=>([] : xh).reverse.lookup x)->g.IsCell (s.zs+1) none->(∀b o,s.heap.get? b=some o->g.get? b=some o)->Q (newEnv I s.zs a ((x0,s.zs+1)::k) qual none .none (some c) builtinsNs) { s with heap:=g,toks:=s.toks+([] : xh).length }) :
  wpAny M A (newFunctionEnv I a k [] qual none .none (some c)) Q E s:=by
 simp only[newFunctionEnv,Option.isSome_some,if_true];refine ZU (wpAny_alloc ?_);refine ZU (wpAny_layCells _ (λm d j=>by cases i:d==NameKind.cell<;>simp[i]) _ _ _ _ ?_);rw[u,t];have l:(s.heap.push { cls:=.type "dict",data:=.dict #[] }).objs.size=s.zs+1:=Heap.size_push ..;show wpAny _ _ (forIn ([] : xh) _ _ >>= _) _ _ _;rw[List.forIn_nil];refine ZU (ZT (ZT ?_));have q:=aW (s.heap.push { cls:=.type "dict",data:=.dict #[] }) (o:={ cls:=.type "cell",data:=.cell none }) rfl;rw[l]at q;show Q (newEnv I s.zs a ((x0,(s.heap.push { cls:=.type "dict",data:=.dict #[] }).objs.size)::k) qual none .none (some c) builtinsNs) _;rw[l];exact r _ ((Heap.Ns.new s.heap (.type "dict")).at' λo e=>aH _ e) ⟨_,q,rfl⟩ λb o e=>aH _ (aH _ e)
def Z1{d:Addr}(e : [(x0,d)].lookup y=some c):y=x0/\c=d:=by
 rw[lookup_cons]at e;cases a:y==x0 with
 |true=>rw[a]at e;cases e;exact⟨by simpa using a,rfl⟩
 |false=>rw[a]at e;cases e
def ext1(k:∀n a,cellsFrom n I.names a=(x0,n)::a)(j:∀h,pushCells h I.names=h.push { cls:=.type "cell",data:=.cell none })(d:∀y∈I.names,y.2=.cell->y.1=x0):U0 X I [x0] (λC=>[(x0,C+1)]) (λz=>z==x0) :=
 ⟨λi=>N5 k j λg o p f=>i g o (λy c e=>by rwa[(Z1 e).2]) f,λC y c e=>by rw[(Z1 e).2];exact X2 _,λC y z c m l=>(Z1 m).1.trans (Z1 l).1.symm,λC y e=>⟨C+1,by rw[beq_iff_eq.mp e];exact List.lookup_cons_self⟩,λC y e=>by
  rw[lookup_cons,beq_eq_false_iff_ne.mpr λz=>e (by rw[z];simp)]
  rfl,λC y e=>by
  by_cases b:y=x0
  .exact .inl ⟨C+1,by rw[b];exact List.lookup_cons_self⟩
  .exact .inr (Cp b e d)⟩
def MV:Ζ->Hp->VK->Prop:=λJ H Q=>∃(l:Addr)(a:wx),J=[.ref l]/\H l=some (.lst (a.map V.bl))/\Q (.bl (a.any id)) H
theorem xQ:∀a:wx,((range a.length).any λi=>(a[i]?).getD true)=a.any id
 |[]=>rfl
 |b::a=>by
  rw[length_cons,List.range_succ_eq_map,any_cons,any_map,any_cons];have:=xQ a;simp only[Function.comp_def,List.getElem?_cons_succ,List.getElem?_cons_zero,getD_some,id]at this ⊢;rw[this]
def abF(hc:X.calm):kW X (.builtin "any") MV:=by
 intro U s O H J x Q I r h;obtain⟨l,c,rfl,m,q⟩:=h;obtain⟨u,rfl,j⟩:=r.one;cases j;obtain⟨a,d,p⟩:=I.lstIs m;have w:l<s.zs:=by obtain⟨_,e,_⟩:=p;exact aK e
 refine call_any_walk (wpAny_pyIter_list p ?_);refine⟨s.zs,[s.zs,l],[s.zs],a.toArray.size,_,_,λi=>(c[i]?).getD true,rfl,Walks.list (A:=X.A.in1) (I.ok.hd hc) _ l (aQ w) a.toArray,
  ⟨⟨_,aW _ rfl,rfl,rfl⟩,p.push _⟩,λi v y z B t f=>?_,λh' g n=>?_⟩
 .obtain⟨b,e,rfl⟩:=Hh d i v (by simpa using t);simp only[e,getD_some]at f;exact wpAny_truthy_bool f
 .have e:((range a.toArray.size).any λi=>(c[i]?).getD true)=c.any id:=by
   rw[aX,<- d.length,ak];exact xQ c
  refine⟨.bl (c.any id),H,I.kept (t':=g) λb o q=>n b o (λk=>?_) (aH _ q),?_,q⟩
  .rw[YR.mp k]at q;exact Wp _ (aK q)
  .rw[e];rfl
def qo(l:Addr):It:=⟨λi H=>∃J,H l=some (.lst J)/\i<J.length,λi H v Y=>∃J x t,H l=some (.lst J)/\J[i]?=some x/\H t=none/\v=.ref t/\Y=upd H t (.tup [.int i,x]),λi H=>∃J,H l=some (.lst J)/\J.length<=i⟩
def aby{Z}(e j l:Addr)(R:e≠j) :
  Turn P w K (.Tuple cx Z N) (qo l) [e,j] e (λi h=>(∃f,IsEnum h e j ((i:Nat):Int) f)/\h.IsListIter j l i) where
 mem:=by simp
 obj:=by
  rintro i h ⟨⟨f,g⟩,⟨o4,m,_,d4⟩⟩ b d;simp only[YU,US,or_false]at d;rcases d with rfl|rfl
  .exact⟨_,g,λv e=>by cases e⟩
  .exact⟨_,m,λv e=>by rw[d4]at e;cases e⟩
 keep:=λi h h' ⟨⟨f,g⟩,m⟩ k=>⟨⟨f,k e wr _ g⟩,rA m (k j wr)⟩
 item:=by
  intro X D hw F hc i U s O H E I p st C;subst D hw F;obtain⟨⟨f,g⟩,m⟩:=st;obtain⟨J,r,nE⟩:=C;obtain⟨_,L,A,G,B,g1⟩:=I.lstM r;have W:J[i]?=some J[i]:=aj nE;obtain⟨u,hu,ru⟩:=Q9 G W;refine wpAny_pyNext_enum_item g m (items:=L.toArray) ⟨_,g1,rfl,A,rfl⟩ (x:=u) (by simpa using hu) R λh' a1 a3 a5 a6 a7=>⟨_,rfl,?_⟩;refine wpAny_letOwnedTupleGo_enum a1 λT g6 M=>?_;have nt:H s.zs=none:=I.fresh;have I1:=I.laid (a:=s.zs) (o:=.tup [.int i,J[i]]) (h':=s.heap.push { cls:=.type "tuple",data:=.seq #[.int i s.toks,u] }) (t':=s.toks+1) (λb q z=>aH _ z) (aG _)
   ⟨(by show 2<=sizeLine;decide),[.int i s.toks,u],.cons ⟨_,rfl⟩ (.cons ru .nil),_,aW _ rfl,rfl,_,rfl⟩
  have nz:e≠s.zs:=aQ (aK g);have nh:j≠s.zs:=by obtain⟨o,e,_⟩:=m;exact aQ (aK e)
  have Q:∀b∈[e,j],upd H s.zs (.tup [.int i,J[i]]) b=none:=by
   intro b d;have V:=(p b d).1;simp only[YU,US,or_false]at d;rcases d with rfl|rfl
   .exact(cA nz).trans V
   .exact(cA nh).trans V
  have I2:=I1.turnedL (ch:=[e,j]) (h':=T) (t':=s.toks+1) (λb t d z=>by
   simp only[YU,US,or_false,not_or]at d;obtain⟨Y,b3⟩:=d;refine(M.2 b Y).trans ?_;by_cases S:b=s.zs
   .subst S;have e2:=aW s.heap (o:={ cls:=.type "tuple",data:=.seq #[.int i s.toks,u] }) rfl;have z:(s.heap.push { cls:=.type "tuple",data:=.seq #[.int i s.toks,u] }).get? s.zs=some t:=z;rw[e2]at z;cases z;exact a5
   .exact a7 b _ Y b3 (PB z S)) λb d=>⟨Q b d,(p b d).2⟩
  have mv:∀c o,c≠e->h'.get? c=some o->T.get? c=some o:=λc o n z=>(M.2 c n).trans z;exact⟨.ref _,_,I2,rfl,⟨J,_,_,r,W,nt,rfl,rfl⟩,⟨⟨_,by rwa[Int.natCast_add]⟩,rA a3 λo z=>mv _ _ (λy=>R y.symm) z⟩,Q⟩
 done:=by
  intro X D hw F hc i U s O H E I p st C;subst D hw F;obtain⟨⟨f,g⟩,m⟩:=st;obtain⟨J,r,lt⟩:=C;obtain⟨_,L,A,G,B,g1⟩:=I.lstM r;have hl:=G.length;refine wpAny_pyNext_enum_end (I.ok.hd hc) g m (items:=L.toArray) ⟨_,g1,rfl,A,rfl⟩ (by simp;lia) λh' k=>⟨rfl,I.turnedL (ch:=[e,j]) (t':=s.toks) (λb t d z=>?_) p⟩;simp only[YU,US,or_false,not_or]at d;exact k b t d.2 z
 self:=λ_ _ _ _ _ ⟨⟨_,g⟩,_⟩ h=>wpAny_pyIter_enum g h
def L8(b:TA):TI:=λO H R=>b O H λvs Z=>∃a J,vs=[.ref a]/\Z a=some (.lst J)/\R (qo a) Z
def Yf{a:Expr}{f:TA}{l}{E:Pos}(y:Gl X "enumerate")(x:X.mg "enumerate"=none)(A:PA X [a] f)(w:starEach [a] X.env=[(false,eval a X.env)]:=by rfl) :
  PI X (.Tuple cx l E) (.Call (.Name "enumerate" p) [a] [] N) (L8 f):=by
 intro U s O H R I h;refine Call_ (DR I y x boot_enumerate (PyProof.Rows.callWith_type1 (ah (A N U s O H _ I h) λK c B=>?_) (by rw[w];rfl) (by rfl)));obtain⟨vs,Z,d,n,o⟩:=B;obtain⟨g,J,e,C,q⟩:=o;subst e;obtain⟨u,rfl,m⟩:=n.one;cases m;obtain⟨_,D,t,L,v,g1⟩:=d.lstM C;refine call_enumerate_list (items:=D.toArray) ⟨_,g1,rfl,t,rfl⟩ λh' k G M F=>?_;refine wpAny_pyIter_enum k ?_;refine⟨_,[c.zs+1,c.zs],_,qo g,Z,rfl,d.kept (t':=c.toks) λb r e=>F b r e,aby _ _ g (Nat.succ_ne_self _),⟨⟨_,k⟩,G⟩,λb i=>?_,q⟩;have j:c.zs<=b:=by
  simp only[YU,US,or_false]at i;rcases i with z|z
  .rw[z];exact Xs _
  .rw[z];exact aG _
 exact d.fpOk j (d.hok.fresh j)
def Sz(f:Addr)(sp:Sp)(tv:TE)(t:TA):TE:=λO H Q=>tv O H λv a=>v=.ref f/\t O a λvs Z=>sp vs Z Q E0
abbrev Md(C t:Addr)(d:Ξ):Obj:={ cls:=.ref C,dict:=d,data:=.fields #[.ref t,.none,.none,.none,.bool false,.none] }
def XN(a C:Addr)(d:Ξ):HO:=.ext λh=>∃t,h.get? a=some (Md C t d)
def out(H:Hp)(a:Addr):Hp:=λb=>if b=a then none else H b
def ap{N P:Φ}{a:Scope}(f:a.kind=.function:=by rfl)(e:a.isCoroutine=false:=by rfl)(d:a.isGenerator=false:=by rfl)(b:N.Nodup/\(∀x∈P,a.names.lookup x=some .local\/a.names.lookup x=some .cell)/\∀y∈a.names,y.2≠.free:=by decide +kernel)(c:N.take P.length=P:=by rfl):bK N P a:=⟨f,e,d,b.1,c,b.2.1,b.2.2⟩
abbrev mx(sc I:Scope)(N N' J:Φ):Prop:=Qo J N=N'/\(∀y∈I.names,y.2=.local->I.names.lookup y.1=some .local)/\(∀y∈I.names,y.2=.free->sc.names.lookup y.1=some .cell\/sc.names.lookup y.1=some .free) /\
 (∀y∈N,y∉J->(I.names.map λ(n,k)=>if(k==NameKind.free&&sc.kind == .function&&sc.names.lookup n==some .cell)then(n,NameKind.cell)else(n,k)).lookup y≠some .local)/\∀y∈N,y∈J->(I.names.map λ(n,k)=>if(k==NameKind.free&&sc.kind == .function&&sc.names.lookup n==some .cell)then(n,NameKind.cell)else(n,k)).lookup (hid y)=none
abbrev CK(sc I:Scope)(N N' J:Φ):Prop:=(∀y∈I.names,y.2≠.cell)/\mx sc I N N' J
def pk(g:Scope)(a f J:Φ)(l:PI X tg iter wi)(m:∀{C b c e d},PG (X.compG f I J C b c e d) tg gt)(j:∀{C b c e d},PTs (X.compG f I J C b c e d) aS tc)(n:∀{C b c e d},PE (X.compG f I J C b c e d) be te)
 (q:X.env.scope=g:=by rfl)(p:X.N=a:=by rfl)(o:X.calm:=by rfl)(i:I.kind=.function:=by rfl)(h:CK g I a f J:=by decide +kernel)(k:zg X iter:=by intro _;rfl):PE X (.ListComp be [⟨tg,iter,aS,0⟩] I N) (uP wi J.length (gd gt) (gc tc) (tM te)) :=
 by
 subst q p;exact Vh (zd i h.1) o h.2.1 i h.2.2.1 h.2.2.2.1 h.2.2.2.2.1 h.2.2.2.2.2 l (λ_ _ _ _ _=>m.mono) (λ_ _ _ _ _=>j.mono) (λ_ _ _ _ _=>n.mono) k
def p9{k:Nat}{g:Str}{i m:Pos}(j:Scope)(a f J:Φ)(p:PI X tg iter wi)(q:∀{C b c e d},PG (X.compG f I J C b c e d) tg gt)(n:∀{C b c e d},PTs (X.compG f I J C b c e d) aS tc)(r:∀{C b c e d},PE (X.compG f I J C b c e d) be te)(t:PG X (.Name g i) (Cj k))
 (w:X.env.scope=j:=by rfl)(v:X.N=a:=by rfl)(s:X.calm:=by rfl)(l:I.kind=.function:=by rfl)(h:CK j I a f J:=by decide +kernel)(u:swapsWith (.ListComp be [⟨tg,iter,aS,0⟩] I N) (some (.Name g i)) m.line X.env=pure true:=by rfl)(o:zg X iter:=by intro _;rfl) :
  PS X (.Assign [.Name g i] (.ListComp be [⟨tg,iter,aS,0⟩] I N) m) (lq (uP wi J.length (gd gt) (gc tc) (tM te)) (Cj k)) :=
 by
 subst w v;exact adE (zd l h.1) s h.2.1 l h.2.2.1 h.2.2.2.1 h.2.2.2.2.1 h.2.2.2.2.2 p (λ_ _ _ _ _=>q.mono) (λ_ _ _ _ _=>n.mono) (λ_ _ _ _ _=>r.mono) t u o
def D2(i:Scope)(a g:Φ)(x0:Str)(m:PI X tg iter wi)(o:∀{C b c e d},PG (X.compGC g I x0 C b c e d) tg gt)(j:∀{C b c e d},PTs (X.compGC g I x0 C b c e d) aS tc)(p:∀{C b c e d},PE (X.compGC g I x0 C b c e d) be te)
 (u:X.env.scope=i:=by rfl)(t:X.N=a:=by rfl)(q:X.calm:=by rfl)(l:I.kind=.function:=by rfl)(s:∀n f,cellsFrom n I.names f=(x0,n)::f:=by intro _ _;rfl)(r:∀h,pushCells h I.names=h.push { cls:=.type "cell",data:=.cell none }:=by intro _;rfl)(h:(∀y∈I.names,y.2=.cell->y.1=x0)/\mx i I a g [x0]:=by decide +kernel)(k:zg X iter:=by intro _;rfl):PE X (.ListComp be [⟨tg,iter,aS,0⟩] I N) (uP wi 1 (gd gt) (gc tc) (tM te)):=by
 subst u t;exact Vh (ext1 s r h.1) q h.2.1 l h.2.2.1 h.2.2.2.1 h.2.2.2.2.1 h.2.2.2.2.2 m (λ_ _ _ _ _=>o.mono) (λ_ _ _ _ _=>j.mono) (λ_ _ _ _ _=>p.mono) k
def Sk{e:Φ}{d:Scope}{k:Addr}{f:Shared}{j:Hp}{g:Ψ}{i:Δ}(o:Scope)(a n J:Φ)(s:PI (X.compGC e d x0 k f j g i) tg iter wi)(t:∀{C b c m l},PG ((X.compGC e d x0 k f j g i).compG n I J C b c m l) tg gt)(p:∀{C b c m l},PTs ((X.compGC e d x0 k f j g i).compG n I J C b c m l) aS tc)(u:∀{C b c m l},PE ((X.compGC e d x0 k f j g i).compG n I J C b c m l) be te)
 (x:X.env.scope=o:=by rfl)(w : [x0]++e=a:=by rfl)(v:X.calm:=by rfl)(r:I.kind=.function:=by rfl)(h:CK (mE o d) I a n J:=by decide +kernel)(q:∀z,foldedSetIterable iter (X.compGC e d x0 k f j g i).env z=pure z:=by intro _;rfl):PE (X.compGC e d x0 k f j g i) (.ListComp be [⟨tg,iter,aS,0⟩] I N) (uP wi J.length (gd gt) (gc tc) (tM te)):=by
 subst x w;exact pk (X:=X.compGC e d x0 k f j g i) (mE X.env.scope d) _ n J s t p u rfl rfl v r h q
def Me{i j:Int}{d:Ξ}{n:Nat}{b:Array (Ω)}{t u:Tok}(l:K.lookup a=some ⟨.type "tuple",d,.seq #[.int i t,.int j u] n,b⟩):∀H,SqT K H a [.int i,.int j]:=λH=>.inr ⟨_,_,_,l,rfl,rfl,(by show 2<=sizeLine;decide),.cons ⟨_,rfl⟩ (.cons ⟨_,rfl⟩ .nil)⟩
def K2{i:Int}{t:Tok}(X:K.In h)(G:h.Ns mainGlobals mg)(l:nsIn K mainGlobals x=some (some (.int i t))):∃u,mg x=some u/\z4 (.int i) u:=⟨_,mg_of X G l,_,rfl⟩
def kz:Nat->(Θ->Prop)->Prop
 |0,P=>P []
 |n+1,P=>∀a,kz n λl=>P (a::l)
theorem Km:∀(n:Nat){P:Θ->Prop},kz n P->∀b:Θ,b.length=n->P b
 |0,_,h,[],_=>h
 |n+1,_,h,a::l,e=>Km n (h a) l (Nat.succ.inj e)
section
variable{K:Frag}{h:Heap}{mg:Str->Ω}{x m qual:Str}{v:Value}{C f:Addr}{st:Stmt}{ps:Φ}{oc:Value}{od an:Ξ}{dQ:Array (Ω)}{kV bt pm ae ct:Value}{i j:Int}{d:Ξ}{n:Nat}{sl:Array (Ω)}{t u:Tok}
def gy(X:K.In h:=by assumption)(G:h.Ns mainGlobals mg:=by assumption)(e:nsIn K mainGlobals x=some (some v):=by k_is):mg x=some v:=mg_of X G e
def dV(X:K.In h:=by assumption)(G:h.Ns mainGlobals mg:=by assumption)(e:nsIn K mainGlobals x=some none:=by k_is):mg x=none:=PySem.W.mg_none_of X G e
def bz(e:findIn K (.ref C) x=some none:=by k_is):cD K C x:=e
def gx(a:findIn K (.ref C) m=some (some (.ref f)):=by k_is)(b:isFn K (.ref f):=by k_is)(c:keepIn K (.ref f):=by k_is):Meth K C m f:=⟨a,b,c⟩
def iv(a:makesIn K C:=by k_is)(b:findIn K (.ref C) "__init__"=some (some (.ref f)):=by k_is)(c:isFn K (.ref f):=by k_is)(e:keepIn K (.ref C):=by k_is):Mk K C f:=⟨a,b,c,e⟩
def hH(a:plainGet K C Str.empty:=by k_is)(b:hasDictIn K C:=by k_is)(c:plainOver K C:=by k_is)(e:findIn K (.ref C) "__setattr__"=some (some (.builtin "object.__setattr__")):=by k_is):Cls K C:=⟨a,b,c,e⟩
def rf(a:specialIn K (.ref C) "__getattribute__"=some (some (.builtin "type.__getattribute__")):=by k_is)(b:readsIn K C (.type "type"):=by k_is)(c:findCls K (.ref C) (.type "type") m=some (.val (.ref f)):=by k_is)(e:keepIn K (.ref f):=by k_is):Ja K C m f:=⟨a,b,c,rfl,e⟩
def q7(X:K.In h:=by assumption)(G:h.Ns mainGlobals mg:=by assumption)(l:nsIn K mainGlobals x=some (some (.int i t)):=by k_is):∃u,mg x=some u/\z4 (.int i) u:=K2 X G l
def qw(l:K.lookup C=some ⟨.type "tuple",d,.seq #[.int i t,.int j u] n,sl⟩:=by k_is):∀H,SqT K H C [.int i,.int j]:=Me l
def ar(d:∀(kV bt pm:Value)(an:Ξ)(ae ct:Value),kz ps.length λb=>bindArgs (PySem.W.fnOf x x (h_ st) (dZ st) (bG st) .none kV bt pm an ae ct) ⟨b,[]⟩=pure (ps.zip b):=by repeat (first|rfl|intro _))(X:K.In h:=by assumption)(G:h.Ns mainGlobals mg:=by assumption)
 (a:nsIn K mainGlobals x=some (some (.ref f)):=by k_is)(l:K.lookup f=some ⟨oc,od,.func (PySem.W.fnOf x x (h_ st) (dZ st) (bG st) .none kV bt pm an ae ct),dQ⟩:=by k_is)
 (c:codeIn K ae x:=by k_is)(k:keepIn K (.ref f):=by k_is):cL K mg x st ps:=ZA X G a l c k λkV bt pm an ae ct b e=>Km _ (d kV bt pm an ae ct) b e
def f5(b:∀(kV bt pm:Value)(an:Ξ)(ae ct:Value),kz ps.length λa=>bindArgs (PySem.W.fnOf x qual (h_ st) (dZ st) (bG st) .none kV bt pm an ae ct) ⟨a,[]⟩=pure (ps.zip a):=by repeat (first|rfl|intro _))
 (l:K.lookup f=some ⟨oc,od,.func (PySem.W.fnOf x qual (h_ st) (dZ st) (bG st) .none kV bt pm an ae ct),dQ⟩:=by k_is)(c:codeIn K ae qual:=by k_is)(k:keepIn K (.ref f):=by k_is):Ce K x qual st ps f:=YN l c k λkV bt pm an ae ct a e=>Km _ (b kV bt pm an ae ct) a e
end
def Mc:R2:=λx y H Q=>∃l b J a,x=.ref l/\y=.ref b/\H l=some (.lst J)/\H b=some (.lst a)/\J.length+a.length<=sizeLine/\∀p Y,z0 H Y->H p=none->Y p=some (.lst (J++a))->Q (.ref p) Y
def YI:OpR X (binaryOp .Add) Mc:=Pw.imp λx y H Q d=>by obtain⟨l,b,J,c,h,g,f,e,z,q⟩:=d;exact⟨l,b,J,c,h,g,f,e,z,λp a=>q p _ (z0.upd a) a cF⟩
def ij(P:Program)(w:World)(K:Frag)(mg:Str->Ω)(base:Heap)(k:Nat)(f:Addr)(ps:Φ)(sp:Sp):Prop :=
 ∃fd o,bW P w K mg base ab k f fd ps sp/\Binds K fd ps []/\base.get? f=some o/\o.data=.func fd
def VI{M:Model}(hd:o.data=.func fd)(h:Heap)(e:h.get? f=some o):∃k,(k=Keeper.frame\/k=Keeper.machine\/k=Keeper.boundFrame)/\PySem.W.Looks M h (keeperOf (.ref f)) k:=by
 refine⟨.frame,.inl rfl,(PySem.W.Looks.ld (part:=none) e).andThen ?_⟩;rw[hd];exact .now
def _A(G:ij X.prog X.w X.K X.mg X.base k f ps sp)(n:dX k X.A)(m:PE X (.Name x p) tv)(B:PA X (e::es) t)
 (z:qS X e es:=by rfl)(C:qE X N es:=by rfl):PE X (.Call (.Name x p) (e::es) [] N) (Sz f sp tv t):=by
 obtain⟨fd,o,F,b,y,hd⟩:=G;intro U s O H Q I h;refine wpAny_Call_Name_kw (ah (m U s O H _ I h) ?_);rintro u d ⟨v,E,D,j,rfl,l⟩;cases j;have g:wpAny (model X.prog X.w) X.A (spliced (backTo N (starEach (e::es) X.env))) (λc a=>a.heap.get? f=some o/\wpAny (model X.prog X.w) X.A (call (.ref f) ([]++c)) (EP X U O Q) X.xe a) X.xe d:=by
  refine ah (B N U d O E _ D l) ?_;rintro c a ⟨vs,Z,i,r,q⟩;refine⟨i.bk f o y,Nm F n b .nil Pk i r ?_⟩;rw[append_nil];exact q
 rw[z]at g ⊢;exact PySem.W.callWith_of (P:=λh=>h.get? f=some o) (by show((false || (backTo N (starEach es X.env)).any (·.1)) || false)=false;rw[C];rfl) (VI hd) (PySem.Calls.evalArgs_plain g)
def nX(P:Program)(w:World)(K:Frag)(mg:Str->Ω)(base:Heap)(N:Φ)(qual:Str)(I:Scope)(f:Addr)(a:Value)(cl:xb)(A:Around)(outer:xt)(s:Shared)(H:Hp)(E:XK):Cx where
 prog:=P
 w:=w
 K:=K
 mg:=mg
 base:=base
 A:=A.deeper (envX qual I s.zs f a cl)
 N:=N
 s₀:=s
 H₀:=H
 env:=envX qual I s.zs f a cl
 outer:=outer
 stack:=envX qual I s.zs f a cl::outer
 ex:=[]
 calm:=true
 fn:=λ_=>false
 pn:=[]
 xe:=λe c=>wpAny (model P w) (A.deeper (envX qual I s.zs f a cl)) (leaving (envX qual I s.zs f a cl) e) (λ_ b=>ab outer H s E e b) (λd b=>ab outer H s E d b) c
inductive Ci(base:Heap)(I:Scope):xb->Ζ->Prop where
 |nil:Ci base I [] []
 |cons {x:Str}{c:Addr}{v:V}{u:Value}{cl:xb}{vs:Ζ} : I.names.lookup x=some .free->base.IsCell c (some u)->z4 v u->cl.lookup x=none->(∀y,(y,c)∉cl)->Ci base I cl vs->Ci base I ((x,c)::cl) (v::vs)
def Ci.len(h:Ci base I cl vs):cl.length=vs.length:=by
 induction h with
 |nil=>rfl
 |cons _ _ _ _ _ _ a=>simp[a]
def Ci.at{base:Heap}{I:Scope}{cl:xb}{vs:Ζ}(h:Ci base I cl vs){i:Nat}{x:Str}{v:V}(e:(cl.map (·.1))[i]?=some x)(a:(vs.map some)[i]?=some (some v)):I.names.lookup x=some .free/\∃c u,cl.lookup x=some c/\base.IsCell c (some u)/\z4 v u:=by
 induction h generalizing i with
 |nil=>simp at e
 |@cons y c q u cl vs n m l k r _ o =>
  cases i with
  |zero =>
   simp at e a;subst e;subst a;exact⟨n,c,u,by simp[List.lookup],m,l⟩
  |succ j =>
   simp at e a;obtain⟨f,p,b,q2,q3,d⟩:=o (i:=j) (by simpa using e) (by simpa using a);refine⟨f,p,b,?_,q3,d⟩;have g:(x==y)=false:=by
    cases z:x==y with
    |false=>rfl
    |true=>rw[beq_iff_eq.mp z,k]at q2;cases q2
   rw[lookup_cons,g];exact q2
def Ci.cells(h:Ci base I cl vs)(e:cl.lookup x=some c):∃u,base.IsCell c (some u):=by
 induction h with
 |nil=>cases e
 |@cons y c0 d u cl vs j a i g f _ b =>
  rw[lookup_cons]at e;split at e
  .cases e;exact⟨u,a⟩
  .exact b e
def zj(e:cl.lookup x=some c):(x,c)∈cl:=PySem.mem_of_lookup e
def Ci.inj(h:Ci base I cl vs)(e:cl.lookup x=some c)(d:cl.lookup y=some c):x=y:=by
 induction h with
 |nil=>cases e
 |@cons z c0 i u cl vs m l k j f _ g =>
  rw[lookup_cons]at e d;cases a:x==z<;>cases b:y==z<;>rw[a]at e<;>rw[b]at d
  .exact g e d
  .cases d;exact absurd (zj e) (f _)
  .cases e;exact absurd (zj d) (f _)
  .rw[beq_iff_eq.mp a,beq_iff_eq.mp b]
def Xa{cd:Value}{frees:Ζ}{a:xt}{E:XK}{d:Heap}{tk:Tok}
 (O:I.kind=.function)(S:∀y∈I.names,y.2≠.cell)(M:I.names.lookup x=some .local)(T:∀y,I.names.lookup y=some .free->∃c,cl.lookup y=some c)(n:Ci base I cl frees)
 (hd:A.handled=none)(e:Mw P w K mg base A a s H)(r:z4 v u)
 (R:d.Ns s.zs (λy=>[(x,u)].reverse.lookup y))(t:∀b o,s.heap.get? b=some o->d.get? b=some o) :
  Inv (nX P w K mg base (x::cl.map (·.1)) qual I f cd cl A a s H E) [] (some v::frees.map some) H { s with heap:=d,toks:=tk }:=by
 have B:∀b:Addr,b∉(nX P w K mg base (x::cl.map (·.1)) qual I f cd cl A a s H E).ex:=λb z=>absurd (show b∈([] : Ψ)from z) wr;have C:∀c u,base.IsCell c (some u)->d.IsCell c (some u)/\H c=none:=λc u Q=>by obtain⟨o,F,hd⟩:=Q;exact⟨⟨o,t _ _ (e.bs _ _ F).1,hd⟩,(e.bs _ _ F).2⟩
 refine⟨⟨e.mod,O,rfl,rfl,aG _,λy z c k g=>n.inj k g,λy m=>?_,(λy c h=>nomatch h),λ_=>hd,Around.frames_deeper e.frames,.inr ⟨rfl,rfl⟩,λb z=>absurd z (B b),e.bs,e.bsz,λb _ _=>B b,λb z=>absurd z (B b),e.funs,e.frf⟩,
  rfl,e.bare,Un.kept t,⟨_,R,λi y D k g U=>?_⟩,λy c h=>?_,e.hok.fresh (aG _),λy c h=>?_,λp N=>absurd (show p∈([] : Δ)from N) wr,e.hok.kept t,?_⟩
 .rcases m with m|m
  .exact absurd rfl (S _ (PySem.mem_of_lookup m))
  .exact T y m
 .cases i with
  |zero =>
   have k:some x=some y:=k;have g:some (some v)=some (some D):=g;cases k;cases g;exact⟨u,r,.inl ⟨M,by show[(x,u)].lookup x=some u;simp[List.lookup]⟩⟩
  |succ j =>
   have k:(cl.map (·.1))[j]?=some y:=k;have g:(frees.map some)[j]?=some (some D):=g;obtain⟨L,c,l,q2,q3,J⟩:=n.at k g;exact⟨l,J,.inr ⟨.inr L,c,q2,(C c l q3).1⟩⟩
 .obtain⟨l,q⟩:=n.cells h;exact⟨_,(C c l q).1⟩
 .obtain⟨l,q⟩:=n.cells h;exact(C c l q).2
 .show _=(x::cl.map (·.1)).length;simp[n.len]
def Sn{j:Addr}{i:Str}{p:Value}{frees:Ζ}
 (ho:base.get? f=some (kla_obj i qual params body I cl pm j p))(G:base.CodeRec (.ref j) qual)
 (R:I.kind=.function)(L:I.isCoroutine=false)(oB:I.isGenerator=false)(T:∀y∈I.names,y.2≠.cell)(hx:I.names.lookup x=some .local)(bP:∀y,I.names.lookup y=some .free->∃c,cl.lookup y=some c)(C:Ci base I cl frees)
 (l:∀vs H Q E,sp vs H Q E->vs.length=1)
 (bg:∀(A:Around)(g:xt)(s:Shared)(H:Hp)(v:V)(Q:VK)(E:XK),dX k (A.deeper (envX qual I s.zs f (.ref j) cl))->sp [v] H Q E ->
   ∃t,PE (nX P w K mg base (x::cl.map (·.1)) qual I f (.ref j) cl A g s H E) body t/\t (some v::frees.map some) H Q) :
  bW P w K mg base ab (k+1) f (PySem.W.kla_fn i qual params body I cl pm (.ref j) p) [x] sp:=by
 refine⟨λvs H Q E h=>l vs H Q E h,λA g s H U us vs Q E D n hb r S=>?_⟩;have O:=l _ _ _ _ S;obtain⟨v,rfl⟩ : ∃v,vs=[v]:=by
  cases vs with
  |nil=>cases O
  |cons v t=>cases t with
   |nil=>exact⟨v,rfl⟩
   |cons _ _=>cases O
 obtain⟨u,rfl,rv⟩ : ∃u,us=[u]/\z4 v u:=by
  cases r with
  |cons a t=>cases t;exact⟨_,rfl,a⟩
 have nK:s.heap.NoLimit:=n.mod.nolimit.keeps λb o e=>(n.bs b o e).1;obtain⟨c2,oc,X,M,e2,hV,l7,F⟩:=G;refine PySem.W.kla_callFunE D.depth (n.bs _ _ ho).1 rfl L oB rfl ⟨c2,oc,X,M,e2,(n.bs _ _ hV).1,l7,F⟩ (hb _ _ _ _ ?_);refine wpAny_newFunctionEnv T (λy B=>?_) (λm dt n9=>?_) R
 .have B:y∈[(x,u)]:=B;rwa[YR.mp B]
 have N:∀b o,s.heap.get? b=some o->m.get? b=some o:=λb o e=>n9.extBut b o (aQ (aK e)) (aH _ e);refine⟨nK.keeps N,PySem.W.kla_codeExpr ?_⟩;obtain⟨t,ht,F⟩:=bg A g s H v Q E (D.deeper _) S;have d:=Xa (f:=f) (cd:=.ref j) (qual:=qual) (E:=E) (tk:=s.toks+[(x,u)].length) R T hx bP C D.hd n rv dt N;exact wpAny_mono (ht [] _ _ H _ d F) (λu' s' hP=>by obtain⟨Z,Y,J,z,q⟩:=hP;exact⟨Z,Y,J.os,J.bare,J.base,J.hok,z,q⟩) λe s' C=>C
def Mg(c:Addr)(qual:Str):HO:=.ext λh=>∃o vs t,h.get? c=some o/\o.data=.fields vs/\vs[1]?=some (.str qual t)
def VP(f:Addr)(b:Value->Obj):HO:=.ext λh=>∃a,h.get? f=some (b a)
def trip(N:Pos)(c:Addr):xI:=#[rawInt N.line,rawInt N.col,.ref c]
def Dc(Pt:Addr)(N:Pos)(qual:Str)(H:Hp):Ξ->Prop
 |none=>H Pt=some (.tbl #[])
 |some c=>H Pt=some (.tbl (trip N c))/\H c=some (Mg c qual)
def Lo(Pt:Addr)(N:Pos)(qual:Str)(a:Addr->Value->Obj):TE:=λO H Q=>∃oc,Dc Pt N qual H oc /\
 ∀f c Y,H f=none->f≠c->(oc=none->H c=none)->(∀c0,oc=some c0->c=c0)->Dc Pt N qual Y (some c)->Y f=some (VP f (a c))->(∀b,b≠Pt->b≠c->b≠f->Y b=H b)->Q (.ref f) Y
def Ww{q:Str}(r:h.CodeRec (.ref c) q):gG P w H h c (Mg c q):=by
 obtain⟨l,o,vs,t,e,f,hd,g⟩:=r;cases e;exact⟨⟨o,vs,t,f,hd,g⟩,⟨o,f⟩,λj i ⟨o,vs,t,a,b,d⟩ k=>⟨o,vs,t,k o a,b,d⟩⟩
def aaE{q:Str}(r:gG P w H h c (Mg c q)):h.CodeRec (.ref c) q:=by
 obtain⟨⟨o,vs,t,b,hd,a⟩,_⟩:=r;exact⟨c,o,vs,t,rfl,b,hd,a⟩
def Ff{b:Value->Obj}{ctv:Value}(e:h.get? f=some (b ctv)):gG P w H h f (VP f b) :=
 ⟨⟨ctv,e⟩,⟨_,e⟩,λg d ⟨c,a⟩ k=>⟨c,k _ a⟩⟩
def NI(hB:X.base.BuiltinsAt X.mg Pt)(h8:X.env.code=.ref c0)(hC:codeHdIn X.K c0 Pt)(fq:closureFor I X.env=pure cl)(o0:defaultsOf params X.env=([],[]):=by rfl) :
  PE X (.Lambda params body I N) (Lo Pt N (X.env.qual++"<lambda>") λc i=>kla_obj "<lambda>" (X.env.qual++"<lambda>") params body I cl ((X.mg "__name__").getD .none) c i):=by
 intro U s O H Q g h;obtain⟨oc,D,q⟩:=h;have hg:s.heap.Ns mainGlobals X.mg:=g.ok.mod.glob.keeps g.bk;have C:PySem.W.CodeHd s.heap c0 Pt:=codeHd_of_K g.kIn hC;obtain⟨bm,ob,b1,b2,b3,b4,b5,b6⟩:=hB;have hb:s.heap.BuiltinsAt X.mg Pt:=⟨bm,ob,b1,b2,b3,b4,g.bk _ _ b5,b6⟩;refine PySem.W.kla_eval o0 ?_;cases oc with
 |none =>
  have G:s.heap.get? Pt=some (tabObj #[]):=g.hok Pt _ D;have Z:mainGlobals≠Pt:=λz=>by
   obtain⟨o,es,ep,e,hd,_⟩:=hg;rw[z,G]at e;cases e;cases hd
  refine PySem.W.kla_makeFunction fq g.ok.glob hg h8 C G trivial rfl Z hb λk i h' M P F eJ oj E=>?_;generalize y:kla_obj "<lambda>" (X.env.qual++"<lambda>") params body I cl ((X.mg "__name__").getD .none) k i=j;have hf:(h'.push j).get? h'.objs.size=some j:=aW _ (by rw[<- y];rfl);have m:∀{b:Addr}{o:Obj},h'.get? b=some o->(h'.push j).get? b=some o:=λe=>aH _ e;have lo:∀{b:Addr}{o:Obj},s.heap.get? b=some o->b≠k/\b≠h'.objs.size:=λe=>have z:=aR (aK e) F;⟨aQ z,aQ (UU z eJ)⟩;have l:∀{b:Addr}{u:HO},H b=some u->b≠k/\b≠h'.objs.size:=λe=>have z:=aR (g.hok.lt e) F;⟨aQ z,aQ (UU z eJ)⟩;have A:Pt≠k/\Pt≠h'.objs.size:=lo G;have L:k≠h'.objs.size:=aQ eJ
  let Y:Hp:=upd (upd (upd H Pt (.tbl (trip N k))) k (Mg k (X.env.qual++"<lambda>"))) h'.objs.size (VP h'.objs.size λi=>kla_obj "<lambda>" (X.env.qual++"<lambda>") params body I cl ((X.mg "__name__").getD .none) k i)
  have eP:Y Pt=some (.tbl (trip N k)):=(cA A.2).trans ((cA A.1).trans cF);have ec:Y k=some (Mg k (X.env.qual++"<lambda>")):=(cA L).trans cF;have ef:Y h'.objs.size=some (VP h'.objs.size λi=>kla_obj "<lambda>" (X.env.qual++"<lambda>") params body I cl ((X.mg "__name__").getD .none) k i):=cF;have p:∀b,b≠Pt->b≠k->b≠h'.objs.size->Y b=H b:=λb n1 n2 n3=>(cA n3).trans ((cA n2).trans (cA n1));have B:∀{b:Addr}{u:HO},H b=some u->(∀ps,u≠.tbl ps)->b≠Pt:=λe n z=>by rw[z,D]at e;cases e;exact n _ rfl
  have V:∀{b:Addr},H b=none->b≠Pt:=λe z=>by rw[z,D]at e;cases e
  have T:Un (ci X.stack) [] H Y s.heap (h'.push j):=by
   refine⟨λb o e n _ _=>m (P b o (V n) e),λb o e n _ _=>⟨o.slots,m (P b o (V n) e)⟩,λb o e n _=>?_,λb o e _=>?_,λb J e=>?_,λb o u e=>?_,λb ps e=>?_⟩
   .rw[p b (V n) (lo e).1 (lo e).2];exact n
   .by_cases z:b=Pt
    .subst z;exact⟨_,m E⟩
    .exact⟨o,m (P b o z e)⟩
   .rw[p b (B e (λ_ z=>by cases z)) (l e).1 (l e).2];exact e
   .rw[p b (B e (λ_ z=>by cases z)) (l e).1 (l e).2];exact e
   .by_cases z:b=Pt
    .subst z;rw[D]at e;cases e;exact⟨trip N k,by rw[eP];simp⟩
    .rw[p b z (l e).1 (l e).2];exact⟨#[],by rw[e];simp⟩
  have x:HOk X.prog X.w Y (h'.push j):=by
   intro b u e;by_cases z1:b=h'.objs.size
   .subst z1;rw[ef]at e;cases e;exact Ff (ctv:=i) (by rwa[y])
   by_cases z2:b=k
   .subst z2;rw[ec]at e;cases e;obtain⟨c2,oc,vs,t,e2,ho,hd,hv⟩:=oj;exact Ww ⟨c2,oc,vs,t,e2,m ho,hd,hv⟩
   by_cases S:b=Pt
   .subst S;rw[eP]at e;cases e;exact m E
   .rw[p b S z2 z1]at e;refine(g.hok b u e).stay (λd o hd r=>?_) (λd r=>?_) λd J r=>?_
    .refine m (P d o (λz=>?_) r);rcases hd with rfl|hd
     .exact S z
     .exact B hd (λ_ z=>by cases z) z
    .rw[p d (B r (λ_ z=>by cases z)) (l r).1 (l r).2];exact r
    .rw[p d (B r (λ_ z=>by cases z)) (l r).1 (l r).2];exact r
  have f:Inv X U O Y { s with heap:=h'.push j,toks:=M }:=g.call (g':=s.gens) (d':=s.drawn) (t':=M) (ch:=[]) T x g.bare λb z=>nomatch z
  subst y;refine⟨.ref h'.objs.size,Y,f,rfl,q h'.objs.size k Y ?_ L.symm (λ_=>?_) (λc0 z=>nomatch z) ⟨eP,ec⟩ ef p⟩
  .cases z:H h'.objs.size with
   |none=>rfl
   |some u=>exact absurd rfl (l z).2
  .cases z:H k with
   |none=>rfl
   |some u=>exact absurd rfl (l z).1
 |some c =>
  obtain⟨f8,fy⟩:=D;have G:s.heap.get? Pt=some (tabObj (trip N c)):=g.hok Pt _ f8;refine PySem.W.kla_makeFunctionHit (cv:=.ref c) fq g.ok.glob hg h8 C G (by simp[TriplesOk,trip,rawInt]) (by simp[codeAmong,trip,rawInt]) hb λi h' M hk v=>?_;generalize y:kla_obj "<lambda>" (X.env.qual++"<lambda>") params body I cl ((X.mg "__name__").getD .none) c i=j;have hf:(h'.push j).get? h'.objs.size=some j:=aW _ (by rw[<- y];rfl);have m:∀b o,s.heap.get? b=some o->(h'.push j).get? b=some o:=λb o e=>aH _ (hk b o e);have R:H h'.objs.size=none:=g.hok.fresh v;have L:c≠h'.objs.size:=jO fy R;have T:Un (ci X.stack) [] H (upd H h'.objs.size (VP h'.objs.size λi=>kla_obj "<lambda>" (X.env.qual++"<lambda>") params body I cl ((X.mg "__name__").getD .none) c i)) s.heap (h'.push j):=Un.laid m v R;have x:=g.hok.laid (a:=h'.objs.size) (o:=VP h'.objs.size λi=>kla_obj "<lambda>" (X.env.qual++"<lambda>") params body I cl ((X.mg "__name__").getD .none) c i) m v (Ff (ctv:=i) (by rwa[y]));have f:=g.call (g':=s.gens) (d':=s.drawn) (t':=M) (ch:=[]) T x g.bare λb z=>nomatch z
  subst y;exact⟨.ref h'.objs.size,_,f,rfl,q h'.objs.size c _ R L.symm (λz=>nomatch z) (λc0 z=>by cases z;rfl) ⟨(cA (jO f8 R)).trans f8,(cA L).trans fy⟩ cF λb _ _ n=>cA n⟩
def wo(as:Ψ)(H:Hp):Hp:=λb=>if b∈as then none else H b
def z_(h:b∉as):wo as H b=H b:=by unfold wo;rw[ZZ h]
def Pz(h:b∈as):wo as H b=none:=by unfold wo;rw[ZY h]
def w5{u:HO}(e:wo as H b=some u):b∉as/\H b=some u:=by
 by_cases h:b∈as
 .rw[Pz h]at e;cases e
 .rw[z_ h]at e;exact⟨h,e⟩
def BR(e:H b=none):wo as H b=none:=by
 unfold wo;split
 .rfl
 .exact e
def E5 : z0 (wo as H) H:=λb o e=>(w5 e).2
def U_(base h:Heap)(L:Ψ):Heap:=hideAll h ((range h.objs.size).filter λb=>!(base.get? b).isSome && !decide (b∈L))
def X8 : (U_ base h L).objs.size=h.objs.size:=hideAll_size _ _
def Bv(e:h.get? b=some o)(k:(base.get? b).isSome=true\/b∈L):(U_ base h L).get? b=some o:=by
 refine hideAll_get _ e λz=>?_;have:=(List.mem_filter.mp z).2;rcases k with k|k<;>simp[k]at this
def U7(e:(U_ base h L).get? b=some o):h.get? b=some o/\((base.get? b).isSome=true\/b∈L):=by
 have a:h.get? b=some o:=of_hideAll _ e;refine⟨a,?_⟩;cases k:(base.get? b).isSome with
 |true=>exact .inl rfl
 |false =>
  by_cases m:b∈L
  .exact .inr m
  .have:(U_ base h L).get? b=none:=hideAll_none _ (List.mem_filter.mpr ⟨List.mem_range.mpr (aK a),by simp[k,m]⟩);rw[this]at e;cases e
def V0(Pt:Addr)(N:Pos)(qual:Str)(e:Addr->Value->Obj)(js:xE)(spR:Ζ->Addr->Sp)(d:TA):TE:=λO H Q=>d O H λvs Z=>∃(f c:Addr)(frees:Ζ),Z f=some (VP f (e c))/\f≠c/\Dc Pt N qual Z (some c)/\(js.map λj=>O[j]?)=frees.map (λv=>some (some v)) /\
 spR frees f vs (wo [Pt,c,f] Z) (λv Y=>∀a,(∀b,b≠Pt->b≠c->a b=Y b)->Dc Pt N qual a (some c)->Y Pt=none->Y c=none->Y f=none->Q v a) E0
theorem Fk{U:Δ}{O:St}{H:Hp}{s:Shared}{I:Scope}{B:Heap}(a:Inv X U O H s):∀{cl:xb}{js:xE}{frees:Ζ},(js.map λj=>O[j]?)=frees.map (λv=>some (some v))->(js.map λj=>X.N[j]?)=cl.map (λq=>some q.1) ->
  (∀q∈cl,X.env.kindOf q.1=some .cell/\X.env.cells.lookup q.1=some q.2/\I.names.lookup q.1=some .free)->(cl.map (·.1)).Nodup->(∀q∈cl,∀o,s.heap.get? q.2=some o->B.get? q.2=some o)->Ci B I cl frees
 |[],js,frees,d,b,_,_,_=>by
  cases js with
  |nil=>cases frees with
   |nil=>exact .nil
   |cons _ _=>cases d
  |cons _ _=>cases b
 |(x,c)::cl,js,frees,d,b,h,F,t=>by
  cases js with
  |nil=>cases b
  |cons j js =>
   cases frees with
   |nil=>cases d
   |cons v frees =>
    simp only[map_cons,List.cons.injEq]at d b;obtain⟨n,k,C⟩:=h (x,c) aO;obtain⟨m,K,E⟩:=a.loc;obtain⟨u,r,l⟩:=E j x v b.1 d.1 (.inr (.inl n));have q:∃i,X.env.cells.lookup x=some i/\s.heap.IsCell i (some u):=by
     rcases l with⟨z,_⟩|⟨_,z⟩
     .rw[show X.env.kindOf x=some .cell from n]at z;cases z
     .exact z
    obtain⟨i,w,o,D,hd⟩:=q;rw[show X.env.cells.lookup x=some c from k]at w;cases w;have f:=List.nodup_cons.mp F;have A:cl.lookup x=none:=by
     cases e:cl.lookup x with
     |none=>rfl
     |some J=>exact absurd (YV.mpr ⟨(x,J),zj e,rfl⟩) f.1
    refine .cons C ⟨o,t _ aO o D,hd⟩ r A (λy p=>?_) (Fk a d.2 b.2 (λq g=>h q (aJ _ g)) f.2 λq g=>t q (aJ _ g));obtain⟨_,G,_⟩:=h (y,c) (aJ _ p);have:=a.ok.inj x y c k G;subst this;exact f.1 (YV.mpr ⟨(x,c),p,rfl⟩)
def YX(hg:Gl X x)(hm:X.mg x=some (.ref fR))(hk:keepIn X.K (.ref fR))(hb:Binds X.K fd ps [])(hr:dX k X.A)
 (F:∀T frees f,ij X.prog X.w X.K X.mg T kL f [y] (spL frees)->bW X.prog X.w X.K X.mg T ab k fR fd ps (spR frees f))
 (L:∀T frees f c D,T.get? f=some (kla_obj "<lambda>" qual params body I cl pm c D)->T.CodeRec (.ref c) qual->Ci T I cl frees->ij X.prog X.w X.K X.mg T kL f [y] (spL frees))
 (hj:(js.map λj=>X.N[j]?)=cl.map (λq=>some q.1))(fq:∀q∈cl,X.env.kindOf q.1=some .cell/\X.env.cells.lookup q.1=some q.2/\I.names.lookup q.1=some .free)(nd:(cl.map (·.1)).Nodup)(iX:∀q∈cl,X.fn q.1)
 (ha:PA X (e::es) t)(cr:qV x:=by decide)
 (he:qS X e es:=by rfl)(bj:qE X bo es:=by rfl) :
  PE X (.Call (.Name x p) (e::es) [] bo) (V0 Pt N qual (λc D=>kla_obj "<lambda>" qual params body I cl pm c D) js spR t):=by
 intro U s O H Q g h;refine wpAny_Call_Name_kw (FW g hg hm ?_ cr);refine callWith_K (h₀:=X.base) g.ok.mod.kin hk (ah (ha bo U s O H _ g h) ?_) he bj;rintro us C ⟨vs,Z,a,r,f,c,frees,hf,nfc,⟨R,P⟩,jI,q⟩;refine⟨a.kIn,?_⟩;obtain⟨D,W⟩:=(a.hok f _ hf).1;have rc:C.heap.CodeRec (.ref c) qual:=aaE (a.hok c _ P);obtain⟨_,oc,ws,tw,ez,hV,l7,hqc⟩:=rc;cases ez;have hP:C.heap.get? Pt=some (tabObj (trip N c)):=a.hok Pt _ R;have ncp:c≠Pt:=pu P R (by intro z;cases z);have nfp:f≠Pt:=pu hf R (by intro z;cases z)
 let Lk:Ψ:=f::c::cl.map (·.2)
 let B:=U_ X.base C.heap Lk
 let V:=wo [Pt,c,f] Z
 have lT:∀{b:Addr}{u:HO},Z b=some u->(∀ps,u≠.tbl ps)->(∀φ,u≠.ext φ)->V b=some u:=λ{b u}e n1 n2=>(z_ (by
  intro z;simp only[YU,US,or_false]at z;rcases z with z|z|z<;>subst z
  .rw[R]at e;cases e;exact n1 _ rfl
  .rw[P]at e;cases e;exact n2 _ rfl
  .rw[hf]at e;cases e;exact n2 _ rfl)).trans e
 have bB:∀b o,X.base.get? b=some o->B.get? b=some o:=λb o e=>Bv (a.bk b o e) (.inl (by rw[e];rfl));have mod:Mod X.K X.mg B:=by
  obtain⟨m1,m2,⟨mb,m3,m4⟩,m5⟩:=a.ok.mod;exact⟨m1.keeps bB,m2.keeps bB,⟨mb,m3.keeps bB,m4⟩,m5.keeps bB⟩
 have gv:∀q∈cl,Z q.2=none/\X.s₀.zs<=q.2/\q.2≠X.env.locals:=λq i=>by
  obtain⟨_,z,_⟩:=fq q i;exact⟨a.freeC _ _ z,a.ok.cab _ _ (iX q i) z,a.cne _ _ z⟩
 have bs:∀b o,B.get? b=some o->C.heap.get? b=some o/\V b=none:=λb o e=>by
  obtain⟨e1,k⟩:=U7 e;refine⟨e1,?_⟩;rcases k with k|k
  .obtain⟨o',cS⟩:=Option.isSome_iff_exists.mp k;exact BR (a.bs b o' cS).2
  .rcases YU.mp k with rfl|k
   .exact Pz wr
   .rcases YU.mp k with rfl|k
    .exact Pz wr
    .obtain⟨q,i,rfl⟩:=YV.mp k;exact BR (gv q i).1
 have stk:∀b∈ci X.stack,B.get? b=none:=λb db=>by
  cases z:B.get? b with
  |none=>rfl
  |some o =>
   have fr:=a.stkFree b db;rcases(U7 z).2 with k|k
   .have:=(a.stack.mem db).1;rw[this]at k;cases k
   .rcases YU.mp k with rfl|k
    .rw[hf]at fr;cases fr
    .rcases YU.mp k with rfl|k
     .rw[P]at fr;cases fr
     .obtain⟨q,i,rfl⟩:=YV.mp k;obtain⟨_,z1,z2⟩:=gv q i;rcases YU.mp (a.stkSub _ db)with w|w
      .exact absurd w z2
      .obtain⟨_,o',cS,_⟩:=a.ok.funs.mem w;exact absurd (aR (aK cS) z1) (Wp _)
 have funs:C.heap.FunFrames B X.stack:=by
  have all:∀(l:xt),(∀b∈ci l,B.get? b=none)->C.heap.FunFrames X.base l->C.heap.FunFrames B l:=by
   intro l
   induction l with
   |nil=>intro _ _;trivial
   |cons env r ih =>
    intro hs hl;obtain⟨ox,⟨L',o,oP,hn,ho,hd⟩,ku⟩:=hl;exact⟨ox,⟨L',o,oP,hs L' (by unfold ci;rw[j',oP];exact aO),ho,hd⟩,ih (λb db=>hs b (by unfold ci;rw[j',oP];exact aJ _ db)) ku⟩
  exact all X.stack stk a.stack
 have hok:HOk X.prog X.w V C.heap:=λb u e=>by
  obtain⟨nb,e'⟩:=w5 e;exact(a.hok b u e').stay (λ_ _ _ z=>z) (λd z=>lT z (λ_ w=>by cases w) λ_ w=>by cases w) λd J z=>lT z (λ_ w=>by cases w) λ_ w=>by cases w
 have e0:Mw X.prog X.w X.K X.mg B X.A X.stack C V:=⟨a.ok.frames,mod,bs,by rw[X8];exact aG _,funs,λb z=>BR (a.stkFree b z),hok,a.bare⟩;have G:=F B frees f (L B frees f c D (Bv W (.inr aO)) ⟨c,oc,ws,tw,rfl,Bv hV (.inr (aJ _ aO)),l7,hqc⟩
  (Fk a jI hj fq nd λq i o ho=>Bv ho (.inr (aJ _ (aJ _ (YV.mpr ⟨q,i,rfl⟩))))))
 have hl:us.length=ps.length:=by rw[<- r.length];exact G.len _ _ _ _ q
 have j1:=hb C us a.kIn (by rwa[append_nil]);rw[append_nil]at j1;refine wpAny_call (codeAny_mono (G.run X.A X.stack C V ⟨[]++us,[]⟩ us vs _ E0 hr e0 j1 r q) ?_);intro res s' i;cases res with
 |error e=>exact i.elim
 |ok fl =>
  cases fl with
  |next=>exact False.elim i
  |brk=>exact False.elim i
  |cont=>exact False.elim i
  |ret u =>
   obtain⟨v,Y,os,bare,m,hok',rv,q'⟩:=i;have np:Pt∉ci X.stack:=λz=>by have:=a.stkFree _ z;rw[R]at this;cases this
   have nc:c∉ci X.stack:=λz=>by have:=a.stkFree _ z;rw[P]at this;cases this
   have hnP:V Pt=none:=Pz wr;have hnC:V c=none:=Pz wr;have kP:=m.keep Pt _ hP hnP np wr;have kC:=m.keep c _ hV hnC nc wr;have fP:=m.free Pt _ hP hnP wr;have fC:=m.free c _ hV hnC wr
   let S:Hp:=upd (upd Y Pt (.tbl (trip N c))) c (Mg c qual)
   have eP:S Pt=some (.tbl (trip N c)):=(cA ncp.symm).trans cF;have eC:S c=some (Mg c qual):=cF;have M:∀b,b≠Pt->b≠c->S b=Y b:=λb n1 n2=>(cA n2).trans (cA n1);have E:∀{b:Addr}{u:HO},Y b=some u->b≠Pt/\b≠c:=λe=>⟨(λz=>by rw[z,fP]at e;cases e),(λz=>by rw[z,fC]at e;cases e)⟩;have n0:∀{b:Addr},Z b=none->b≠Pt/\b≠c:=λe=>⟨(λz=>by rw[z,R]at e;cases e),(λz=>by rw[z,P]at e;cases e)⟩;have un':Un (ci X.stack) [] Z S C.heap s'.heap:=by
    refine⟨λb o e n=>m.keep b o e (BR n),λb o e n=>m.slot b o e (BR n),λb o e n z=>?_,m.there,λb J e=>?_,λb o u e=>?_,λb ps e=>?_⟩
    .rw[M b (n0 n).1 (n0 n).2];exact m.free b o e (BR n) z
    .have:=m.tups b J (lT e (λ_ w=>by cases w) λ_ w=>by cases w);rw[M b (E this).1 (E this).2];exact this
    .have:=m.frzs b o u (lT e (λ_ w=>by cases w) λ_ w=>by cases w);rw[M b (E this).1 (E this).2];exact this
    .by_cases z:b=Pt
     .subst z;rw[R]at e;cases e;exact⟨#[],by rw[eP];simp⟩
     .obtain⟨more,this⟩:=m.tbls b ps ((z_ (by
       intro w;simp only[YU,US,or_false]at w;rcases w with w|w|w
       .exact z w
       .subst w;rw[P]at e;cases e
       .subst w;rw[hf]at e;cases e)).trans e)
      exact⟨more,by rw[M b (E this).1 (E this).2];exact this⟩
   have kx:HOk X.prog X.w S s'.heap:=λb u e=>by
    by_cases z1:b=c
    .subst z1;rw[eC]at e;cases e;exact Ww ⟨_,oc,ws,tw,rfl,kC,l7,hqc⟩
    by_cases z2:b=Pt
    .subst z2;rw[eP]at e;cases e;exact kP
    rw[M b z2 z1]at e;exact(hok' b u e).stay (λ_ _ _ z=>z) (λd z=>by rw[M d (E z).1 (E z).2];exact z) λd J z=>by rw[M d (E z).1 (E z).2];exact z
   exact⟨v,S,a.call' os un' kx bare (λb z=>nomatch z),rv,q' S M ⟨eP,eC⟩ fP fC (m.free f _ W (Pz wr) wr)⟩
def py(Pt:Addr)(H:Hp):Prop:=∀b,b≠Pt->H b=none\/∃o J,H b=some (.frz o (.lst J))
def abd{N:Str->Ω}{CX:eS}{S:Addr}{c:Shared}{vs:Θ}{B:xm}
 (X:K.In c.heap)(y:c.heap.get? Pt=some (tabObj #[]))(pM:K.lookup Pt=none)(hC:codeHdIn K c0 Pt)(hB:c.heap.BuiltinsAt mg Pt)
 (dt:c.heap.Ns mainGlobals mg)(f:c.heap.Ns builtinsNs N)(j1:∀x:Str,x≠"__name__"->N x=bootBuiltins x)(iO:c.heap.NoLimit)(hg:c.gens = #[])
 (t:c.heap.get? a=some { cls:=.type "list",data:=.seq vs.toArray })(hi:IntsAre vs B)(hl:B.length<=sizeLine)(hr:dX k callerA)
 (F:∀base:Heap,K.In base->base.Ns mainGlobals mg->base.BuiltinsAt mg Pt->bW P w K mg base CX k S fd [x] sp)(gu:∀(s:Shared)(u:Value),BindsTo s fd ⟨[u],[]⟩ [(x,u)])
 (eB:∀H:Hp,py Pt H->H Pt=some (.tbl #[])->SqL K H a (B.map V.int)->sp [.ref a] H (λv _=>v=.bl true) λ_ _ _=>False)
 (kK:∀H e g,CX [] H c (λ_ _ _=>False) e g->False) :
  codeAny (model P w) callerA (.call (.ref S) ⟨[.ref a],[]⟩) (λr g=>r=.ok (.ret (.bool true))/\OldK c.heap g.heap/\g.os=c.os/\AllBare g.gens) c:=by
 have Z:=Ca hi;have iE:=hi.length;have C:a≠Pt:=λz=>by rw[z,y]at t;cases t
 have core:∀H:Hp,py Pt H->H Pt=some (.tbl #[])->SqL K H a (B.map V.int)->HOk P w H c.heap->(∀b,H b≠none->b=a\/b=Pt)->(H a≠none->K.lookup a=none) ->
   codeAny (model P w) callerA (.call (.ref S) ⟨[.ref a],[]⟩) (λr g=>r=.ok (.ret (.bool true))/\OldK c.heap g.heap/\g.os=c.os/\AllBare g.gens) c:=by
  intro H hO hT hS D R hK;have T:∀{b:Addr}{o:Obj},c.heap.get? b=some o->H b=none->(Dm c.heap H).get? b=some o:=λe n=>Wq e n;have f6:∀{b:Addr}{o:Obj}{es:Array DictEntry}{G:Nat},c.heap.get? b=some o->o.data=.dict es G->H b=none:=λ{b o es G}e d=>by
   cases q:H b with
   |none=>rfl
   |some u =>
    rcases R b (by rw[q];simp)with i|i
    .subst i;rw[t]at e;cases e;have d':Data.seq vs.toArray _=Data.dict es G:=d;cases d'
    .subst i;rw[y]at e;cases e;cases d
  have L:∀{b:Addr}{m:Str->Ω},c.heap.Ns b m->(Dm c.heap H).Ns b m:=λ{b m}h=>by
   obtain⟨o,es,G,e,d,r⟩:=h;exact⟨o,es,G,T e (f6 e d),d,r⟩
  have kH:K.In (Dm c.heap H):=λb o e=>T (X b o e) (by
   cases q:H b with
   |none=>rfl
   |some u =>
    rcases R b (by rw[q];simp)with i|i
    .subst i;rw[hK (by rw[q];simp)]at e;cases e
    .subst i;rw[pM]at e;cases e)
  have Q:(Dm c.heap H).BuiltinsAt mg Pt:=by
   obtain⟨U,o,b1,b2,b3,b4,W,b6,b7⟩:=hB;refine⟨U,o,b1,b2,b3,b4,T W ?_,b6,b7⟩;cases q:H U with
   |none=>rfl
   |some u =>
    rcases R U (by rw[q];simp)with i|i
    .subst i;rw[t]at W;cases W;injection b6 with z;exact absurd z wf
    .exact absurd i b4
  have hM:Mod K mg (Dm c.heap H):=⟨kH,L dt,⟨N,L f,j1⟩,by obtain⟨mc,h1,h2⟩:=iO;exact⟨mc,L h1,h2⟩⟩;have e0:Mw P w K mg (Dm c.heap H) callerA [] c H:=⟨rfl,hM,λb o e=>ZK e,WG (Pu _ _),trivial,λb f=>absurd (show b∈([] : Ψ)from f) wr,D,.of_eq hg⟩;refine codeAny_mono ((F _ kH (L dt) Q).run callerA [] c H ⟨[.ref a],[]⟩ [.ref a] [.ref a] _ _ hr e0 (gu c (.ref a)) (.cons rfl .nil) (eB H hO hT hS)) λr g h=>?_;cases r with
  |error e=>exact(kK H e g h).elim
  |ok fl =>
   cases fl with
   |next=>exact False.elim h
   |brk=>exact False.elim h
   |cont=>exact False.elim h
   |ret u =>
    obtain⟨v,Y,os,I,M,p,r',q⟩:=h;have q':v=.bl true:=q;subst q';obtain rfl:u=Value.bool true:=r';have kp:∀b o,b≠Pt->c.heap.get? b=some o->g.heap.get? b=some o:=λb o n e=>by
     cases q:H b with
     |none=>exact M.keep b o e q (by intro z;exact absurd (show b∈([] : Ψ)from z) wr) wr
     |some u =>
      rcases hO b n with z|⟨ob,J,z⟩
      .rw[q]at z;cases z
      .have z2:=M.frzs b ob _ z;obtain⟨e1,_⟩:=D b _ z;obtain⟨e2,_⟩:=p b _ z2;rw[e]at e1;cases e1;exact e2
    obtain⟨l,hm⟩:=M.tbls Pt _ hT;have E:g.heap.get? Pt=some (tabObj (#[]++l)):=p Pt _ hm;refine⟨rfl,⟨λb o e=>?_,λb o e=>?_⟩,os,I⟩
    .by_cases z:b=Pt
     .subst z;rw[y]at e;cases e;exact .inr (.inl ⟨((codeHd_of_K X hC).tab y).isCodeTable,rfl,#[],l,rfl,E⟩)
     .exact .inl (kp b o z e)
    .by_cases z:b=Pt
     .subst z;exact⟨_,E⟩
     .exact⟨o,kp b o z e⟩
 cases O:K.lookup a with
 |some o =>
  have e:=X a o O;rw[t]at e;cases e;refine core (λb=>if b=Pt then some (.tbl #[])else none) (λb n=>.inl (ZZ n)) (ZY rfl) (.inr ⟨_,vs.toArray,_,O,rfl,rfl,rfl,by rw[aX,iE];exact hl,by simpa using Z⟩) (λb u z=>?_) (λb z=>?_) λz=>absurd (ZZ C) z
  .by_cases f:b=Pt
   .have j:=(ZY f).symm.trans z;cases j;subst f;exact y
   .have j:=(ZZ f).symm.trans z;cases j
  .by_cases f:b=Pt
   .exact .inr f
   .exact absurd (ZZ f) z
 |none =>
  refine core (λb=>if b=a then some (.frz { cls:=.type "list",data:=.seq vs.toArray } (.lst (B.map V.int)))else if b=Pt then some (.tbl #[])else none) (λb n=>?_) ((ZZ C.symm).trans (ZY rfl)) (.inl (.inr ⟨{ cls:=.type "list",data:=.seq vs.toArray },ZY rfl⟩)) (λb u z=>?_) (λb z=>?_) λ_=>O
  .by_cases f:b=a
   .exact .inr ⟨_,_,ZY f⟩
   .exact .inl ((ZZ f).trans (ZZ n))
  .by_cases f:b=a
   .have j:=(ZY f).symm.trans z;cases j;subst f;exact⟨t,by rw[ak];exact hl,vs,_,Z,t⟩
   .by_cases A:b=Pt
    .have j:=((ZZ f).trans (ZY A)).symm.trans z;cases j;subst A;exact y
    .have j:=((ZZ f).trans (ZZ A)).symm.trans z;cases j
  .by_cases f:b=a
   .exact .inl f
   .by_cases A:b=Pt
    .exact .inr A
    .exact absurd ((ZZ f).trans (ZZ A)) z
def Qt(K:Frag)(Pt:Addr):Sp:=λvs H Q _=>∃(a:Addr)(b:xm),vs=[.ref a]/\SqL K H a (b.map V.int)/\b.length<=63/\py Pt H/\H Pt=some (.tbl #[])/\∀Y,Q (.bl true) Y
def ah8{l:PySem.W.OpenLaw}{q:Program}{c:Φ}{XP:(Str->Ω)->Heap->Prop}{E:World->Heap->Prop}{d:DefRec}{K:Params->Frag}(Pt:Addr)(c0:Addr)(P:l.most=some 63)(N:d.params.defaults=[])
 (O:dX k callerA)(V:∀(w:World)(h:Heap),E w h->(K w.params).In h/\h.get? Pt=some (tabObj #[]))(I:∀w:World,(K w.params).lookup Pt=none)(A:∀w:World,codeHdIn (K w.params) c0 Pt)
 (F:∀(w:World)(mg:Str->Ω)(m:Addr)(h:Heap),(K w.params).In h->h.Ns mainGlobals mg->mg d.name=some (.ref m) ->
   ∃st,cL (K w.params) mg d.name st [x]/\∀(base:Heap)(f:Addr)(fd:FuncData),base.BuiltinsAt mg Pt->Fun (K w.params) d.name d.name st f fd->bW l.prog w (K w.params) mg base ab k f fd [x] (Qt (K w.params) Pt)) :
  PySem.W.WalkO q c XP E l.row.toRowW d [] (λf vs=>PySem.call f vs):=by
 refine Att.Jg P N λw v i mg mb m o pm cd bt a vs M G Y ho hd a9 p gf d6 D R=>?_;obtain⟨t,y⟩:=V w _ Y;obtain⟨st,⟨f,fd,S,U,Q⟩,J⟩:=F w mg m _ t G.T.g p;rw[Q]at p;have e:f=m:=by injection p with z;injection z
 subst e;have C:=codeHd_of_K t (A w);obtain⟨bm,L,b1,b2,j,B,b5,r⟩:=G.T.bmain;have n:i.heap.BuiltinsAt mg Pt:=by
  refine⟨bm,L,b1,b2,λz=>?_,λz=>?_,j,B,b5,r⟩
  .obtain⟨o',es,ep,e,d',_⟩:=G.T.g;rw[z,e]at j;cases j;rw[d']at r;cases r
  .rw[z,y]at j;cases j;cases B
 exact abd (sp:=Qt (K w.params) Pt) t y (I w) (A w) n G.T.g G.T.b G.T.builtins G.T.nolimit R gf d6 (aL D wf) O (λbase _ _ n=>J base f fd n S) (λs u=>.of_eq (U [u] rfl)) (λH hO X Z=>⟨a,M,rfl,Z,D,hO,X,λ_=>rfl⟩) λH e s' z=>z
def afc(K:Frag)(mg:Str->Ω)(x:Str)(st:Stmt)(ps:Φ)(Pt:Addr):Prop :=
 ∃f fd c,Fun K x x st f fd/\(∀a:Θ,a.length=ps.length->bindArgs fd ⟨a,[]⟩=pure (ps.zip a))/\mg x=some (.ref f)/\fd.code=.ref c/\codeHdIn K c Pt
def GE{j i:Ξ}{kV g d:Value}(N:Nat)(m:∀(kV g pm:Value)(i:Ξ)(o d:Value),kz N λb=>bindArgs (PySem.W.fnOf x x (h_ st) (dZ st) (bG st) .none kV g pm i o d) ⟨b,[]⟩=pure (ps.zip b))(n:ps.length=N:=by rfl)(X:K.In h:=by assumption)(G:h.Ns mainGlobals mg:=by assumption)
 (a:nsIn K mainGlobals x=some (some (.ref f)):=by k_is)(l:K.lookup f=some ⟨oc,j,.func (PySem.W.fnOf x x (h_ st) (dZ st) (bG st) .none kV g pm i (.ref c0) d),dQ⟩:=by k_is)
 (c:codeIn K (.ref c0) x:=by k_is)(k:keepIn K (.ref f):=by k_is)(z:codeHdIn K c0 Pt:=by kernel_rfl):afc K mg x st ps Pt :=
 ⟨f,_,c0,YG l c k,λb e=>Km N (m kV g pm i (.ref c0) d) b (e.trans n),mg_of X G a,rfl,z⟩
def ado(X:Frag.In (K++[(a,o)]) h)(c:K.lookup a=none):K.In h/\h.get? a=some o:=by
 refine⟨λb u e=>X b u ?_,X a o ?_⟩
 .rw[kb,e];rfl
 .rw[kb,c];simp[List.lookup]
section
variable{X:Cx}{k:Nat}{f C B:Addr}{ps:Φ}{sp:Sp}{x m:Str}{p N ai:Pos}{e:Expr}{es:xw}{t:TA}
def PR(C:Addr)(sp:Sp)(t:TA):TE:=λO H Q=>t O H λvs Z=>∀x a,Z x=none->Z a=none->a≠x->sp (.ref x::vs) (upd (upd Z a (.own x)) x (.ins C a [])) (λv b=>v=.non/\Q (.ref x) b) E0
def ac0(M:Mk X.K C f)(G:zC X ab k f ps sp)(a:dX (k+1) X.A)(c:Gl X x)(b:X.mg x=some (.ref C))(i:PA X (e::es) t)(o:qV x:=by decide)
 (d:qS X e es:=by rfl)(r:qE X N es:=by rfl):PE X (.Call (.Name x p) (e::es) [] N) (PR C sp t):=by
 obtain⟨fd,F,g⟩:=G;refine(V' M F a c b g .nil Pk i.mono o d r).imp λO H Q h=>⟨_,h,λvs Z q x n m l j=>?_⟩;rw[append_nil];exact q x n m l j
def _R(c:Ja X.K B m f)(G:zC X ab k f ps sp)(d:dX k X.A)(h:Gl X x)(g:X.mg x=some (.ref B))(j:PA X (e::es) t)(l:qV x:=by decide)
 (n:qS X e es:=by rfl)(o:qE X N es:=by rfl)
 (b:eval (.Call (.Attribute (.Name x p) m ai) (e::es) [] N) X.env=(do
   let a <- eval (.Name x p) X.env
   standAt ai.atName
   let(f,first) <- holding [a] (getMethod a m pl)
   callWith N f first (backTo N (starEach (e::es) X.env)) (backToKw N (keywordEach [] X.env))):=by rfl) :
  PE X (.Call (.Attribute (.Name x p) m ai) (e::es) [] N) (W_ sp t):=by
 obtain⟨fd,F,i⟩:=G;exact _k (pl:=pl) c F d h g i j l n o b
end
inductive T where
 |any|non|bl (b:Bool)|int (i:Int)|str (s:Str)|val (v:V)
 |tup (W:List T)|lst (W:List T)|scr (W:List T)
 |dct (ks:xi) (W:List T)|ins (C:Addr) (ks:Φ) (W:List T)|exc (C:Addr) (ks:Φ) (W:List T)
abbrev xj:=List T
abbrev wb:=List xj
def aaU(F:Hp):Ξ->xn->Prop
 |none,l=>l=[]
 |some d,l=>F d=some (.xd l)
mutual
inductive Rep(K:Frag)(F:Hp):V->T->Prop
 |any (v:V):Rep K F v .any
 |non:Rep K F .non .non
 |bl (b:Bool):Rep K F (.bl b) (.bl b)
 |int (i:Int):Rep K F (.int i) (.int i)
 |str (s:Str):Rep K F (.str s) (.str s)
 |val (v:V):Rep K F v (.val v)
 |tup {a:Addr}{J:Ζ}{W:xj} : SqT K F a J->bV K F J W->Rep K F (.ref a) (.tup W)
 |lst {a:Addr}{J:Ζ}{W:xj} : F a=some (.lst J)->bV K F J W->Rep K F (.ref a) (.lst W)
 |scr {a:Addr}{J:Ζ}{W:xj} : SqL K F a J->bV K F J W->Rep K F (.ref a) (.scr W)
 |dct {a:Addr}{ks:xi}{J:Ζ}{W:xj} : Rd F a (.dK (ks.zip J))->ks.length=J.length->bV K F J W->Rep K F (.ref a) (.dct ks W)
 |ins {a C dx:Addr}{ks:Φ}{J:Ζ}{W:xj} : F a=some (.ins C dx (ks.zip J))->F dx=some (.own a)->ks.length=J.length->bV K F J W->Rep K F (.ref a) (.ins C ks W)
 |exc {a C:Addr}{d:Ξ}{ks:Φ}{J:Ζ}{W:xj} : F a=some (XO a C d)->aaU F d (ks.zip J)->ks.length=J.length->bV K F J W->Rep K F (.ref a) (.exc C ks W)
inductive bV(K:Frag)(F:Hp):Ζ->xj->Prop
 |nil:bV K F [] []
 |cons {x:V}{J:Ζ}{t:T}{W:xj} : Rep K F x t->bV K F J W->bV K F (x::J) (t::W)
end
variable{x:V}{W:xj}{S:Addr->Prop}
section
variable{K:Frag}{F F' H Y:Hp}
def z0.rd{u:HO}(S:z0 F F')(h:Rd F a u):Rd F' a u:=h.imp (S _ _) λb=>by obtain⟨o,e⟩:=b;exact⟨o,S _ _ e⟩
def aaU.same{d:Ξ}{l:xn}(S:z0 F F')(h:aaU F d l):aaU F' d l:=by
 cases d with
 |none=>exact h
 |some d=>exact S _ _ h
mutual
theorem Rep.same(S:z0 F F'):∀{x:V}{t:T},Rep K F x t->Rep K F' x t
 |_,_,.any v=>.any v
 |_,_,.non=>.non
 |_,_,.bl b=>.bl b
 |_,_,.int i=>.int i
 |_,_,.str s=>.str s
 |_,_,.val v=>.val v
 |_,_,.tup e h=>.tup (S.tup e) (bV.same S h)
 |_,_,.lst e h=>.lst (S _ _ e) (bV.same S h)
 |_,_,.scr e h=>.scr (S.seq e) (bV.same S h)
 |_,_,.dct e l h=>.dct (S.rd e) l (bV.same S h)
 |_,_,.ins e d l h=>.ins (S _ _ e) (S _ _ d) l (bV.same S h)
 |_,_,.exc e d l h=>.exc (S _ _ e) (d.same S) l (bV.same S h)
theorem bV.same(S:z0 F F'):∀{J:Ζ}{W:xj},bV K F J W->bV K F' J W
 |_,_,.nil=>.nil
 |_,_,.cons h t=>.cons (Rep.same S h) (bV.same S t)
end
def Rep.lstI(h:Rep K F x (.lst W)):∃a J,x=.ref a/\F a=some (.lst J)/\bV K F J W:=by cases h;exact⟨_,_,rfl,by assumption,by assumption⟩
def Rep.tupI(h:Rep K F x (.tup W)):∃a J,x=.ref a/\SqT K F a J/\bV K F J W:=by cases h;exact⟨_,_,rfl,by assumption,by assumption⟩
def Rep.scrI(h:Rep K F x (.scr W)):∃a J,x=.ref a/\SqL K F a J/\bV K F J W:=by cases h;exact⟨_,_,rfl,by assumption,by assumption⟩
def Rep.dctI{b:xi}(h:Rep K F x (.dct b W)):∃a J,x=.ref a/\Rd F a (.dK (b.zip J))/\b.length=J.length/\bV K F J W:=by cases h;exact⟨_,_,rfl,by assumption,by assumption,by assumption⟩
def Rep.insI{C:Addr}{b:Φ}(h:Rep K F x (.ins C b W)):∃a c J,x=.ref a/\F a=some (.ins C c (b.zip J))/\F c=some (.own a)/\b.length=J.length/\bV K F J W:=by cases h;exact⟨_,_,_,rfl,by assumption,by assumption,by assumption,by assumption⟩
theorem bV.len:∀{J:Ζ}{W:xj},bV K F J W->J.length=W.length
 |_,_,.nil=>rfl
 |_,_,.cons _ t=>ZH (· + 1) (bV.len t)
theorem bV.app:∀{J c:Ζ}{W d:xj},bV K F J W->bV K F c d->bV K F (J++c) (W++d)
 |_,_,_,_,.nil,h=>h
 |_,_,_,_,.cons a b,h=>.cons a (bV.app b h)
theorem bV.at_:∀{J:Ζ}{W:xj}{i:Nat}{t:T},bV K F J W->W[i]?=some t->∃x,J[i]?=some x/\Rep K F x t
 |_,_,_,_,.nil,e=>by cases e
 |_,_,0,_,.cons a _,e=>by cases e;exact⟨_,rfl,a⟩
 |_,_,i+1,_,.cons _ b,e=>by
  obtain⟨x,q,r⟩:=bV.at_ (i:=i) b (by simpa using e);exact⟨x,by simpa using q,r⟩
theorem bV.of_at:∀{J:Ζ}{W:xj},J.length=W.length->(∀(i:Nat)x t,J[i]?=some x->W[i]?=some t->Rep K F x t)->bV K F J W
 |[],[],_,_=>.nil
 |x::J,t::W,l,h=>.cons (h 0 x t rfl rfl) (bV.of_at (Nat.succ.inj l) λi y u b a=>h (i+1) y u b a)
 |[],_::_,l,_=>by cases l
 |_::_,[],l,_=>by cases l
theorem bV.set{x:V}{t:T}(r:Rep K F x t):∀{J:Ζ}{W:xj}(i:Nat),bV K F J W->bV K F (J.set i x) (W.set i t)
 |_,_,_,.nil=>.nil
 |_,_,0,.cons _ h=>.cons r h
 |_,_,i+1,.cons a h=>.cons a (bV.set r i h)
theorem bV.take:∀{J:Ζ}{W:xj}(n:Nat),bV K F J W->bV K F (J.take n) (W.take n)
 |_,_,0,_=>.nil
 |_,_,_+1,.nil=>.nil
 |_,_,n+1,.cons a h=>.cons a (bV.take n h)
theorem bV.drop:∀{J:Ζ}{W:xj}(n:Nat),bV K F J W->bV K F (J.drop n) (W.drop n)
 |_,_,0,h=>h
 |_,_,_+1,.nil=>.nil
 |_,_,n+1,.cons _ h=>bV.drop n h
def hd(S:Addr->Prop)(H:Hp):Hp:=λb=>open Classical in if S b then none else H b
def sU(h:S b):hd S H b=none:=by unfold hd;rw[ZY h]
def cX(h:¬S b):hd S H b=H b:=by unfold hd;rw[ZZ h]
def cW{o:HO}(e:hd S H b=some o):¬S b/\H b=some o:=by
 by_cases h:S b
 .rw[sU h]at e;cases e
 .rw[cX h]at e;exact⟨h,e⟩
def jG{a:Addr->Prop}(i:∀b,a b->S b\/H b=none)(e:z0 H Y):z0 (hd S H) (hd a Y):=λb o h=>by
 obtain⟨n,h⟩:=cW h;rw[cX λz=>?_]
 .exact e _ _ h
 .rcases i b z with y|y
  .exact n y
  .rw[h]at y;cases y
def dW : z0 (hd S H) H:=λ_ _ h=>(cW h).2
def bU(e:z0 H Y):z0 (hd S H) (hd S Y):=jG (λ_=>.inl) e
def E7:hd (λ_=>False) H=H:=funext λ_=>cX id
inductive OT where
 |und|fz (t:T)|l1 (W:xj)|l2 (aw:wb)|d1 (ks:xi) (W:xj)|ob (a dx C:Addr) (ks:Φ) (W:xj)|la (a:Addr) (W:xj)|pr (W us:xj)|gh (φ:Hp->V->Prop) (t:T)
abbrev xy:=List OT
def frz:OT->T
 |.und=>.any
 |.fz t=>t
 |.l1 W=>.lst W
 |.l2 c=>.lst (c.map T.lst)
 |.d1 a W=>.dct a W
 |.ob _ _ C a W=>.ins C a W
 |.la _ W=>.lst W
 |.pr W b=>.tup [.lst W,.lst b]
 |.gh _ t=>t
def Slo(K:Frag)(F H:Hp)(v:xD)(A:Ψ):OT->Prop
 |.und=>A=[]
 |.fz t=>A=[]/\∃u,v=some u/\Rep K F u t
 |.l1 W=>∃a J,v=some (.ref a)/\A=[a]/\H a=some (.lst J)/\bV K F J W
 |.l2 h=>∃a d,v=some (.ref a)/\A=a::d/\(a::d).Nodup/\H a=some (.lst (d.map V.ref))/\d.length=h.length/\∀(i:Nat)b W,d[i]?=some b->h[i]?=some W->∃J,H b=some (.lst J)/\bV K F J W
 |.d1 c W=>∃a J,v=some (.ref a)/\A=[a]/\H a=some (.dK (c.zip J))/\c.length=J.length/\bV K F J W
 |.ob a f C c W=>∃J,v=some (.ref a)/\A=[a,f]/\H a=some (.ins C f (c.zip J))/\H f=some (.own a)/\c.length=J.length/\bV K F J W
 |.la a W=>∃J,v=some (.ref a)/\A=[a]/\H a=some (.lst J)/\bV K F J W
 |.pr W j=>∃p a b J g,v=some (.ref p)/\A=[a,b]/\a≠b/\F p=some (.tup [.ref a,.ref b])/\H a=some (.lst J)/\H b=some (.lst g)/\bV K F J W/\bV K F g j
 |.gh e t=>A=[]/\(∀F F' u,z0 F F'->e F u->e F' u)/\∃u,v=some u/\e F u/\Rep K F u t
def Slo.same{v:xD}{A:Ψ}(S:z0 F F')(E:z0 H Y):∀{x:OT},Slo K F H v A x->Slo K F' Y v A x
 |.und,h=>h
 |.fz _,⟨a,u,e,r⟩=>⟨a,u,e,r.same S⟩
 |.l1 _,⟨a,J,e,z,h,r⟩=>⟨a,J,e,z,E _ _ h,r.same S⟩
 |.l2 _,⟨a,j,e,z,n,h,l,r⟩=>⟨a,j,e,z,n,E _ _ h,l,λi b W g f=>let⟨J,q,r⟩:=r i b W g f;⟨J,E _ _ q,r.same S⟩⟩
 |.d1 _ _,⟨a,J,e,z,h,l,r⟩=>⟨a,J,e,z,E _ _ h,l,r.same S⟩
 |.ob _ _ _ _ _,⟨J,e,z,h,d,l,r⟩=>⟨J,e,z,E _ _ h,E _ _ d,l,r.same S⟩
 |.la _ _,⟨J,e,z,h,r⟩=>⟨J,e,z,E _ _ h,r.same S⟩
 |.pr _ _,⟨p,a,b,J,c,e,z,n,t,h,k,r,q⟩=>⟨p,a,b,J,c,e,z,n,S _ _ t,E _ _ h,E _ _ k,r.same S,q.same S⟩
 |.gh _ _,⟨a,st,u,e,p,r⟩=>⟨a,st,u,e,st _ _ _ S p,r.same S⟩
def Slo.off{v:xD}{A:Ψ} : ∀{x:OT},Slo K F H v A x->(∀b∈A,∀u,H b=some u->Y b=some u)->Slo K F Y v A x
 |.und,s,_=>s
 |.fz _,s,_=>s
 |.l1 _,⟨a,J,e,z,w,r⟩,off=>⟨a,J,e,z,off a (by rw[z];simp) _ w,r⟩
 |.l2 _,⟨a,o,e,z,g,w,l,r⟩,off=>⟨a,o,e,z,g,off a (by rw[z];simp) _ w,l,λi b W c j=>let⟨J,q,r⟩:=r i b W c j;⟨J,off b (by rw[z];exact aJ _ (aC c)) _ q,r⟩⟩
 |.d1 _ _,⟨a,J,e,z,w,r⟩,off=>⟨a,J,e,z,off a (by rw[z];simp) _ w,r⟩
 |.ob a m _ _ _,⟨J,e,z,w,d,r⟩,off=>⟨J,e,z,off a (by rw[z];simp) _ w,off m (by rw[z];simp) _ d,r⟩
 |.la a _,⟨J,e,z,w,r⟩,off=>⟨J,e,z,off a (by rw[z];simp) _ w,r⟩
 |.pr _ _,⟨p,a,b,J,f,e,z,n,t,h,k,r⟩,off=>⟨p,a,b,J,f,e,z,n,t,off a (by rw[z];simp) _ h,off b (by rw[z];simp) _ k,r⟩
 |.gh _ _,s,_=>s
def abT(H:Hp)(a:Addr):Prop:=∃o,H a=some o/\((∃J,o=.lst J)\/(∃k,o=.dK k)\/(∃C d f,o=.ins C d f)\/∃x,o=.own x)
def Slo.sole{v:xD}{A:Ψ}{x:OT}(h:Slo K F H v A x)(f:a∈A):abT H a:=by
 cases x with
 |und=>rw[show A=[]from h]at f;cases f
 |fz t=>rw[h.1]at f;cases f
 |l1 W=>obtain⟨b,J,_,rfl,e,_⟩:=h;cases YR.mp f;exact⟨_,e,.inl ⟨_,rfl⟩⟩
 |l2 m =>
  obtain⟨b,w,_,rfl,_,e,l,r⟩:=h;rcases YU.mp f with z|z
  .exact⟨_,z ▸ e,.inl ⟨_,rfl⟩⟩
  .obtain⟨i,g⟩:=aV z;have j:i<m.length:=l ▸ (ao.mp g).1;obtain⟨J,q,_⟩:=r i a _ g (aj j);exact⟨_,q,.inl ⟨_,rfl⟩⟩
 |d1 k W=>obtain⟨b,J,_,rfl,e,_⟩:=h;cases YR.mp f;exact⟨_,e,.inr (.inl ⟨_,rfl⟩)⟩
 |ob b u C k W =>
  obtain⟨J,_,rfl,e,d,_⟩:=h;rcases YU.mp f with z|z
  .exact⟨_,z ▸ e,.inr (.inr (.inl ⟨_,_,_,rfl⟩))⟩
  .cases YR.mp z;exact⟨_,d,.inr (.inr (.inr ⟨_,rfl⟩))⟩
 |la b W=>obtain⟨J,_,rfl,e,_⟩:=h;cases YR.mp f;exact⟨_,e,.inl ⟨_,rfl⟩⟩
 |pr W s =>
  obtain⟨p,b,c,J,o,_,rfl,_,_,e,d,_⟩:=h;rcases YU.mp f with z|z
  .exact⟨_,z ▸ e,.inl ⟨_,rfl⟩⟩
  .cases YR.mp z;exact⟨_,d,.inl ⟨_,rfl⟩⟩
 |gh n t=>rw[h.1]at f;cases f
def Slo.frz{u:V}{A:Ψ}{x:OT}(h:Slo K F H (some u) A x)(S:z0 F F')(E:∀a∈A,F' a=H a):Rep K F' u (frz x):=by
 cases x with
 |und=>exact .any _
 |fz t=>obtain⟨_,w,e,r⟩:=h;cases e;exact r.same S
 |l1 W=>obtain⟨b,J,e,rfl,q,r⟩:=h;cases e;exact .lst ((E _ wr).trans q) (r.same S)
 |l2 y =>
  obtain⟨b,v,e,rfl,_,q,l,r⟩:=h;cases e;refine .lst ((E _ wr).trans q) (bV.of_at (by simp[l]) λi x t g f=>?_);rw[aq]at g f;cases j:v[i]? with
  |none=>rw[j]at g;cases g
  |some c =>
   cases k:y[i]? with
   |none=>rw[k]at f;cases f
   |some W =>
    rw[j]at g;rw[k]at f;cases g;cases f;obtain⟨J,q,r⟩:=r i c W j k;exact .lst ((E _ (aJ _ (aC j))).trans q) (r.same S)
 |d1 s W=>obtain⟨b,J,e,rfl,q,l,r⟩:=h;cases e;exact .dct (.inl ((E _ wr).trans q)) l (r.same S)
 |ob b G C s W=>obtain⟨J,e,rfl,q,d,l,r⟩:=h;cases e;exact .ins ((E _ wr).trans q) ((E _ wr).trans d) l (r.same S)
 |la b W=>obtain⟨J,e,rfl,q,r⟩:=h;cases e;exact .lst ((E _ wr).trans q) (r.same S)
 |pr W D =>
  obtain⟨p,b,c,J,B,e,rfl,_,t,o,q2,n,m⟩:=h;cases e;exact .tup (.inl (.of (S _ _ t))) (.cons (.lst ((E _ wr).trans o) (n.same S)) (.cons (.lst ((E _ wr).trans q2) (m.same S)) .nil))
 |gh z t=>obtain⟨_,_,w,e,_,r⟩:=h;cases e;exact r.same S
def Ow(a:Nat->Ψ)(b:Addr):Prop:=∃i,b∈a i
structure SR(K:Frag)(own:Nat->Ψ)(H:Hp)(O:L2.St)(o:xy):Prop where
 len:o.length=O.length
 sl:∀i x,o[i]?=some x->Slo K (hd (Ow own) H) H (O[i]?.join) (own i) x
 out:∀i,o.length<=i->∀a∈own i,∃J,H a=some (.lst J)
 dis:∀i j a,a∈own i->a∈own j->i=j
variable{own:Nat->Ψ}{O:L2.St}{o:xy}
def SR.same(h:SR K own H O o)(E:z0 H Y):SR K own Y O o:=⟨h.len,λi x e=>(h.sl i x e).same (bU E) E,λi b a c=>let⟨J,e⟩:=h.out i b a c;⟨J,E _ _ e⟩,h.dis⟩
def SR.sole(h:SR K own H O o){b:Addr}(z:Ow own b):abT H b:=by
 obtain⟨i,z⟩:=z;by_cases a:i<o.length
 .exact(h.sl i _ (aj a)).sole z
 .obtain⟨J,e⟩:=h.out i (Nat.not_lt.mp a) b z;exact⟨_,e,.inl ⟨_,rfl⟩⟩
def abT.ne(h:abT H a):H a≠none:=by
 obtain⟨o,e,_⟩:=h;rw[e];exact λz=>by cases z
def NR(K:Frag)(S:Addr->Prop)(H Y:Hp)(v:V)(x:OT):Prop:=∃B,(∀a∈B,H a=none)/\Slo K (hd (λb=>S b\/b∈B) Y) Y (some v) B x
def NR.rep{x:OT}(h:NR K S H Y v x)(c:∀b,S b->H b≠none):Rep K (hd S Y) v (L2.frz x):=by
 obtain⟨B,n,r⟩:=h;exact r.frz (jG (λb z=>.inl (.inl z)) (λ_ _ z=>z)) λa d=>cX λz=>c a z (n a d)
def NR.fz{S:Addr->Prop}{v:V}{t:T}(h:Rep K (hd S Y) v t):NR K S H Y v (.fz t):=⟨[],λ_ z=>(nomatch z),rfl,v,rfl,h.same (jG (λb z=>.inl (z.elim id λy=>(nomatch y))) λ_ _ z=>z)⟩
def NR.l1{S:Addr->Prop}{a:Addr}{J:Ζ}{W:xj}(n:H a=none)(e:Y a=some (.lst J))(h:bV K (hd (λb=>S b\/b=a) Y) J W):NR K S H Y (.ref a) (.l1 W) :=
 ⟨[a],λ_ z=>(YR.mp z) ▸ n,a,J,rfl,rfl,e,h.same (jG (λb z=>.inl (z.imp id YR.mp)) λ_ _ z=>z)⟩
def NR.back{b:Hp}{x:OT}(h:NR K S H Y v x)(E:z0 b H):NR K S b Y v x:=by
 obtain⟨B,n,r⟩:=h;exact⟨B,λa c=>E.free (n a c),r⟩
def own1(own:Nat->Ψ)(i:Nat)(B:Ψ):Nat->Ψ:=λj=>if j=i then B else own j
def k_{B:Ψ} : own1 own i B i=B:=ZY rfl
def gw{j:Nat}{B:Ψ}(h:j≠i):own1 own i B j=own j:=ZZ h
def Ow.of1{B:Ψ}(h:Ow (own1 own i B) b):Ow own b\/b∈B:=by
 obtain⟨j,h⟩:=h;by_cases z:j=i
 .rw[z,k_]at h;exact .inr h
 .rw[gw z]at h;exact .inl ⟨j,h⟩
def SR.put(h:SR K own H O o)(E:z0 H Y){x:OT}(n:NR K (Ow own) H Y v x)(l:i<o.length):∃m,SR K m Y (O.set i (some v)) (o.set i x)/\z0 (hd (Ow own) H) (hd (Ow m) Y):=by
 obtain⟨B,f,r⟩:=n;have le:z0 (hd (Ow own) H) (hd (Ow (own1 own i B)) Y):=jG (λb z=>z.of1.imp id (f b)) E;refine⟨own1 own i B,⟨by rw[VT,VT,h.len],λj y e=>?_,λj g=>?_,λj k a d c=>?_⟩,le⟩
 .by_cases z:j=i
  .subst z;rw[Tx l]at e;cases e;rw[k_,Tx (h.len ▸ l)];exact r.same (jG (λb z=>.inl z.of1) λ_ _ z=>z) λ_ _ z=>z
  .rw[UT (Ne.symm z)]at e;rw[gw z,UT (Ne.symm z)];exact(h.sl j y e).same le E
 .rw[VT]at g;rw[gw wp];intro a p;obtain⟨J,e⟩:=h.out j g a p;exact⟨J,E _ _ e⟩
 .by_cases z:j=i<;>by_cases y:k=i
  .rw[z,y]
  .rw[z,k_]at d;rw[gw y]at c;exact absurd (f a d) (h.sole ⟨k,c⟩).ne
  .rw[y,k_]at c;rw[gw z]at d;exact absurd (f a c) (h.sole ⟨j,d⟩).ne
  .rw[gw z]at d;rw[gw y]at c;exact h.dis j k a d c
def SR.frz(h:SR K own H O o){i:Nat}{x:OT}(e:o[i]?=some x){u:V}(g:O[i]?=some (some u)):∃n,SR K n H O (o.set i (.fz (L2.frz x)))/\z0 (hd (Ow own) H) (hd (Ow n) H):=by
 have p:i<o.length:=(ao.mp e).1;have le:z0 (hd (Ow own) H) (hd (Ow (own1 own i [])) H):=jG (λb z=>.inl (z.of1.elim id λy=>(nomatch y))) λ_ _ z=>z;have l:=h.sl i x e;rw[g]at l;refine⟨own1 own i [],⟨by rw[VT,h.len],λj y f=>?_,λj m=>?_,λj k a d c=>?_⟩,le⟩
 .by_cases z:j=i
  .subst z;rw[Tx p]at f;cases f;rw[k_,g];exact⟨rfl,u,rfl,Slo.frz l le λa q=>cX λz=>by
    obtain⟨k,z⟩:=z;by_cases y:k=j
    .rw[y,k_]at z;cases z
    .rw[gw y]at z;exact y (h.dis k j a z q)⟩
  .rw[UT (Ne.symm z)]at f;rw[gw z];exact(h.sl j y f).same le λ_ _ z=>z
 .rw[VT]at m;rw[gw wp];exact h.out j m
 .by_cases z:j=i
  .rw[z,k_]at d;cases d
  by_cases y:k=i
  .rw[y,k_]at c;cases c
  .rw[gw z]at d;rw[gw y]at c;exact h.dis j k a d c
def SR.chg(h:SR K own H O o){x:OT}(e:o[i]?=some x){y:OT}(E:∀b u,b∉own i->H b=some u->Y b=some u)(r:Slo K (hd (Ow own) Y) Y (O[i]?.join) (own i) y):SR K own Y O (o.set i y)/\z0 (hd (Ow own) H) (hd (Ow own) Y):=by
 have g:i<o.length:=(ao.mp e).1;have le:z0 (hd (Ow own) H) (hd (Ow own) Y):=λb u z=>by
  obtain⟨n,z⟩:=cW z;rw[cX n];exact E b u (λq=>n ⟨i,q⟩) z
 refine⟨⟨by rw[VT,h.len],λj z c=>?_,λj d a f=>?_,h.dis⟩,le⟩
 rotate_left
 .rw[VT]at d;obtain⟨J,l⟩:=h.out j d a f;exact⟨J,E a _ (λz=>by have:=h.dis j i a f z;lia) l⟩
 by_cases q:j=i
 .subst q;rw[Tx g]at c;cases c;exact r
 .rw[UT (Ne.symm q)]at c;exact((h.sl j z c).same le λ_ _ z=>z).off λb k u=>E b u λz=>q (h.dis j i b k z)
def SR.get(h:SR K own H O o){i:Nat}{t:T}(e:o[i]?=some (.fz t)):∃u,O[i]?=some (some u)/\Rep K (hd (Ow own) H) u t:=by
 obtain⟨_,u,q,r⟩:=h.sl i _ e;refine⟨u,?_,r⟩;cases z:O[i]? with
 |none=>rw[z]at q;cases q
 |some w=>rw[z]at q;exact ZH some q
end
end L2
namespace L2
open PySem PySem.Spec PyProof.Rows
abbrev RE:=xy->(OT->Prop)->Prop
abbrev RT:=xy->(Bool->Prop)->Prop
abbrev RA:=xy->(xj->Prop)->Prop
def tQ(K:Frag)(r:RE):TE:=λO H Q=>∃a o R,SR K a H O o/\r o R/\∀Y v x,R x->z0 H Y->NR K (Ow a) H Y v x->Q v Y
def tQT(K:Frag)(r:RT):TT:=λO H Q=>∃a o R,SR K a H O o/\r o R/\∀Y b,R b->z0 H Y->Q b Y
def tQA(K:Frag)(n:Nat)(r:RA):TA:=λO H Q=>∃a o R,SR K a H O o/\r o R/\∀Y b W,R W->W.length=n->z0 H Y->bV K (hd (Ow a) Y) b W->Q b Y
def QE(X:Cx)(e:Expr)(r:RE):Prop:=PE X e (tQ X.K r)
def QT(X:Cx)(e:Expr)(r:RT):Prop:=PT X e (tQT X.K r)
def QW(X:Cx)(e:Expr)(r:RT):Prop:=PW X e (tQT X.K r)
def QA(X:Cx)(a:xw)(r:RA):Prop:=PA X a (tQA X.K a.length r)
variable{X:Cx}{es:xw}{R:OT->Prop}{Q:VK}{b:Bool}{N:Pos}{t:T}{v:V}
def PT.imp{e:Expr}{t a:TT}(h:PT X e t)(i:∀O H Q,a O H Q->t O H Q):PT X e a:=λU s O H Q I q=>h U s O H Q I (i O H Q q)
def PW.imp{e:Expr}{t a:TT}(h:PW X e t)(i:∀O H Q,a O H Q->t O H Q):PW X e a:=λb U s O H Q I q=>h b U s O H Q I (i O H Q q)
def PA.imp{t a:TA}(h:PA X es t)(i:∀O H Q,a O H Q->t O H Q):PA X es a:=λp U s O H Q I q=>h p U s O H Q I (i O H Q q)
section
variable{K:Frag}{own:Nat->Ψ}{H:Hp}{O:L2.St}{o:xy}
def tQ.mk{r:RE}(h:SR K own H O o)(c:r o R)(k:∀Y v x,R x->z0 H Y->Rep K (hd (Ow own) Y) v (frz x)->Q v Y):tQ K r O H Q :=
 ⟨own,o,R,h,c,λY v x a E n=>k Y v x a E (n.rep λb z=>(h.sole z).ne)⟩
def slot:xy->Nat->OT
 |[],_=>.und
 |x::_,0=>x
 |_::l,n+1=>slot l n
theorem iJ:∀{o:xy}{i:Nat}{x:OT},slot o i=x->x≠.und->o[i]?=some x
 |[],_,_,e,n=>absurd e.symm n
 |_::_,0,_,e,_=>ZH some e
 |_::l,i+1,x,e,n=>by simpa using iJ (o:=l) (i:=i) e n
end
def gE(i:Nat):RE:=λo q=>match slot o i with|.fz t=>q (.fz t)|_=>False
def rC(t:T):RE:=λ_ q=>q (.fz t)
abbrev zn:Type:=T->T->(OT->Prop)->Prop
def f4(g:zn)(a b:RE):RE:=λo q=>a o λx=>b o λy=>g (frz x) (frz y) q
def F9(g:T->(OT->Prop)->Prop)(a:RE):RE:=λo q=>a o λx=>g (frz x) q
def sw(b:Bool)(p q:Prop):Prop:=match b with|true=>p|false=>q
def ip{p q:Prop}(c:b->p)(a:b=false->q):sw b p q:=by
 cases b
 .exact a rfl
 .exact c rfl
def c4{c:Prop}[Decidable c]{p q:Prop}(b:c->p)(a:¬c->q):sw (decide c) p q:=ip (λe=>b (of_decide_eq_true e)) λe=>a (of_decide_eq_false e)
def fh{p q:Prop}(e:b)(h:p):sw b p q:=by subst e;exact h
def dz{p q:Prop}(e:b=false)(h:q):sw b p q:=by subst e;exact h
def qv(i:Nat){x:Str}(f:n_X X i x:=by exact⟨rfl,rfl,wf,wf⟩):QE X (.Name x N) (gE i):=(pv i f).imp λO H Q d=>by
 obtain⟨b,o,R,h,a,k⟩:=d;unfold gE at a;cases e:slot o i with
 |fz t =>
  rw[e]at a;obtain⟨u,q,r⟩:=h.get (iJ e (by intro z;cases z));exact⟨u,q,k H u _ a (.refl _) (NR.fz r)⟩
 |_=>rw[e]at a;exact a.elim
def wn{x:Str}(b:n_X X 0 x:=by exact⟨rfl,rfl,wf,wf⟩):QE X (.Name x N) (gE 0):=qv 0 b
def we{x:Str}(b:n_X X 1 x:=by exact⟨rfl,rfl,wf,wf⟩):QE X (.Name x N) (gE 1):=qv 1 b
def wa{x:Str}(b:n_X X 2 x:=by exact⟨rfl,rfl,wf,wf⟩):QE X (.Name x N) (gE 2):=qv 2 b
def wP{x:Str}(b:n_X X 3 x:=by exact⟨rfl,rfl,wf,wf⟩):QE X (.Name x N) (gE 3):=qv 3 b
def wE{x:Str}(b:n_X X 4 x:=by exact⟨rfl,rfl,wf,wf⟩):QE X (.Name x N) (gE 4):=qv 4 b
def qC{e:Expr}(h:PE X e (tC v))(r:∀F,Rep X.K F v t):QE X e (rC t):=h.imp λO H Q c=>by obtain⟨a,o,R,_,b,k⟩:=c;exact k H v _ b (.refl _) (NR.fz (r _))
def bA{i j N} : QE X (.Constant (.int i) j N) (rC (.int i)):=qC PN λ_=>.int _
def mV{b j N} : QE X (.Constant (.bool b) j N) (rC (.bl b)):=qC MO λ_=>.bl _
def iD{j N} : QE X (.Constant .none j N) (rC .non):=qC SH λ_=>.non
def wO{x j N} : QE X (.Constant (.str x) j N) (rC (.str x)):=qC PQ λ_=>.str _
def MP{x:Str}(a:∃u,X.mg x=some u/\z4 v u)(r:∀F,Rep X.K F v t)(b:Gl X x:=by rfl)(hd:qV x:=by decide):QE X (.Name x N) (rC t):=qC (_8 b a hd) r
variable{b a c:Expr}{ra rb:RE}{g:zn}{op:CmpOp}{S:Addr->Prop}{H Y:Hp}{J:Ζ}{W:xj}{K:Frag}
def GO(X:Cx)(f:Value->Value->Sem Value)(g:zn):Prop:=OpR X f λx y H Q=>∃S t u R,(∀b,S b->H b≠none)/\Rep X.K (hd S H) x t/\Rep X.K (hd S H) y u/\g t u R/\∀Y v z,R z->z0 H Y->NR X.K S H Y v z->Q v Y
theorem q2{g:zn}{O:L2.St}{H:Hp}{Q:VK}(h:tQ X.K (f4 g ra rb) O H Q):io (λx y H Q=>∃S t u R,(∀b,S b->H b≠none)/\Rep X.K (hd S H) x t/\Rep X.K (hd S H) y u/\g t u R/\∀Y v z,R z->z0 H Y->NR X.K S H Y v z->Q v Y) (tQ X.K ra) (tQ X.K rb) O H Q:=by
 obtain⟨d,o,R,h,j,k⟩:=h;exact tQ.mk h j λZ v x q c i=>tQ.mk (h.same c) q λm w y q2 a f=>⟨Ow d,_,_,R,λb z=>((h.same (c.trans a)).sole z).ne,i.same (bU a),f,q2,λY u z e l n=>k Y u z e (c.trans (a.trans l)) (n.back (c.trans a))⟩
def bL{op:Operator}(c:GO X (binaryOp op) g)(e:QE X a ra)(d:QE X b rb):QE X (.BinOp a op b N) (f4 g ra rb):=(NF c e d).imp λ_ _ _=>q2
def xH(c:GO X (compareOp op) g)(f:QE X a ra)(e:QE X b rb)(d:behindInMarks op b=false:=by exact ES _):QE X (.Compare a [op] [b] N) (f4 g ra rb):=(TM c f e d).imp λ_ _ _=>q2
def gI(g:Int->Int->OT):zn
 |.int i,.int j,q=>q (g i j)
 |_,_,_=>False
def GO.ints{f:Value->Value->Sem Value}{g:Int->Int->V}{t:Int->Int->T}(h:OpR X f (ge g))(r:∀i j F,Rep X.K F (g i j) (t i j)):GO X f (gI λi j=>.fz (t i j)):=h.imp λx y H Q d=>by
 obtain⟨S,t,u,R,_,c,b,a,k⟩:=d;cases c<;>try exact a.elim
 cases b<;>try exact a.elim
 exact⟨_,_,rfl,rfl,k H _ _ a (.refl _) (NR.fz (r _ _ _))⟩
def qy:GO X (binaryOp .Sub) (gI λi j=>.fz (.int (i-j))):=.ints Rc λ_ _ _=>.int _
def CV:GO X (compareOp .Lt) (gI λi j=>.fz (.bl (decide (i<j)))):=.ints LZ λ_ _ _=>.bl _
def CN:GO X (compareOp .LtE) (gI λi j=>.fz (.bl (decide (i<=j)))):=.ints NA λ_ _ _=>.bl _
def I_:GO X (compareOp .Gt) (gI λi j=>.fz (.bl (decide (j<i)))):=.ints MA λ_ _ _=>.bl _
def DI:GO X (compareOp .GtE) (gI λi j=>.fz (.bl (decide (j<=i)))):=.ints L0 λ_ _ _=>.bl _
def AJ:zn
 |.int i,.int j,q=>q (.fz (.int (i+j)))
 |.str a,.str b,q=>a.length+b.length<=sizeLine/\q (.fz (.str (a++b)))
 |.lst a,.lst b,q=>a.length+b.length<=sizeLine/\q (.l1 (a++b))
 |_,_,_=>False
def Dw{p:Addr}(r:bV X.K (hd S H) J W)(E:z0 H Y)(n:H p=none)(e:Y p=some (.lst J)):NR X.K S H Y (.ref p) (.l1 W) :=
 NR.l1 n e (r.same (jG (λb z=>z.imp id λ(y:b=p)=>y ▸ n) E))
def dg:GO X (binaryOp .Add) AJ:=λU s O H x y v u Q I f d m=>by
 obtain⟨S,t,w,R,_,h,g,c,k⟩:=m;cases t<;>try exact c.elim
 .cases h;cases w<;>try exact c.elim
  cases g;exact OU U s O H _ _ v u Q I f d ⟨_,_,rfl,rfl,k H _ _ c (.refl _) (NR.fz (.int _))⟩
 .cases h;cases w<;>try exact c.elim
  cases g;exact YO U s O H _ _ v u Q I f d ⟨_,_,rfl,rfl,c.1,k H _ _ c.2 (.refl _) (NR.fz (.str _))⟩
 .cases w<;>try exact c.elim
  obtain⟨a,J,rfl,q,j⟩:=h.lstI;obtain⟨b,l,rfl,o,i⟩:=g.lstI;exact YI U s O H _ _ v u Q I f d ⟨a,b,J,l,rfl,rfl,(cW q).2,(cW o).2,by rw[j.len,i.len];exact c.1,λp Y E n e=>k Y _ _ c.2 E (Dw (j.app i) E n e)⟩
def K':zn
 |.int i,.int j,q=>(Bd i/\Bd j)/\q (.fz (.int (i*j)))
 |.lst a,.int j,q=>(-(2^63)<=j/\j<2^63/\a.length*j.toNat<=sizeLine)/\∀z,z=(replicate j.toNat a).flatten->q (.l1 z)
 |.str a,.int j,q=>(∃c,a=⟨#[c]⟩/\1<=j/\j<=1000/\∀z:Str,z.cps.toList=replicate j.toNat c->q (.fz (.str z)))
 |_,_,_=>False
def LA:zn
 |.int i,.int j,q=>(j≠0/\Bd j)/\q (.fz (.int (i.fdiv j)))
 |_,_,_=>False
def IA:zn
 |.int i,.int j,q=>0<j/\q (.fz (.int (i%j)))
 |_,_,_=>False
def Ll:zn
 |.int i,.int j,q=>t5 i j/\q (.fz (.int (i^j.toNat)))
 |_,_,_=>False
def o7:GO X (binaryOp .FloorDiv) LA:=_5.imp λx y H Q d=>by
 obtain⟨S,t,u,R,_,c,b,a,k⟩:=d;cases c<;>try exact a.elim
 cases b<;>try exact a.elim
 exact⟨_,_,rfl,rfl,a.1,k H _ _ a.2 (.refl _) (NR.fz (.int _))⟩
def cM:GO X (binaryOp .Mod) IA:=R1.imp λx y H Q d=>by
 obtain⟨S,t,u,R,_,c,b,a,k⟩:=d;cases c<;>try exact a.elim
 cases b<;>try exact a.elim
 exact⟨_,_,rfl,rfl,a.1,k H _ _ a.2 (.refl _) (NR.fz (.int _))⟩
def Yy:GO X (binaryOp .Pow) Ll:=Pm.imp λx y H Q d=>by
 obtain⟨S,t,u,R,_,c,b,a,k⟩:=d;cases c<;>try exact a.elim
 cases b<;>try exact a.elim
 exact⟨_,_,rfl,rfl,a.1,k H _ _ a.2 (.refl _) (NR.fz (.int _))⟩
def LM:T->(OT->Prop)->Prop
 |.int i,q=>q (.fz (.int (-i)))
 |_,_=>False
def uL(e:QE X a ra):QE X (.UnaryOp .USub a N) (F9 LM ra):=(M3 N0 e).imp λO H Q ⟨c,o,R,h,d,k⟩=>tQ.mk h d λZ v x q f b=>by
 revert b q
 generalize frz x=t;intro q b;cases b<;>try exact q.elim
 exact⟨_,rfl,k _ _ _ q f (NR.fz (.int _))⟩
def lz:T->Option Bool
 |.non=>some true
 |.any=>none
 |.val v=>some (decide (v=.non))
 |_=>some false
def k4(a:Bool):zn:=λt u q=>match u,lz t with
 |.non,some b=>q (.fz (.bl (xor a b)))
 |_,_=>False
def Uw{F:Hp}{x:V}{b:Bool}(h:Rep K F x t)(e:lz t=some b):decide (x=.non)=b:=by
 cases h<;>cases e<;>first|rfl|(apply Zp;intro z;cases z)
def zB:GO X (compareOp .Is) (k4 false):=O3.imp λx y H Q f=>by
 obtain⟨S,t,u,R,_,d,c,a,k⟩:=f;cases c<;>try exact a.elim
 unfold k4 at a;cases e:lz t with
 |none=>rw[e]at a;exact a.elim
 |some b=>rw[e]at a;exact⟨rfl,k H _ _ a (.refl _) (NR.fz (by rw[Uw d e,Bool.false_xor];exact .bl _))⟩
def Ry:GO X (compareOp .IsNot) (k4 true):=X'.imp λx y H Q f=>by
 obtain⟨S,t,u,R,_,d,c,a,k⟩:=f;cases c<;>try exact a.elim
 unfold k4 at a;cases e:lz t with
 |none=>rw[e]at a;exact a.elim
 |some b=>rw[e]at a;exact⟨rfl,k H _ _ a (.refl _) (NR.fz (by rw[Uw d e,Bool.true_xor];exact .bl _))⟩
structure mu(H:Hp)(S:Addr->Prop):Prop where
 sole:∀b,S b->abT H b
 ins:∀a C dx fs,S a->H a=some (.ins C dx fs)->S dx
 own:∀b x,S b->H b=some (.own x)->S x
variable{b f D:Addr}{own:Nat->Ψ}{O:L2.St}{P:Program}{w:World}{mg:Str->Ω}{base:Heap}{k n:Nat}{fd:FuncData}{ps:Φ}{sp:Sp}{r:RA}{p p2 bo af az:Pos}{α:Type}{st:Stmt}{u:HO}{ys:Ζ}{tg:Expr}{qual:Str}
def SR.mate{o:xy}(h:SR K own H O o){j:Nat}(a:b∈own j):(∀C d f,H b=some (.ins C d f)->d∈own j)/\∀x,H b=some (.own x)->x∈own j:=by
 have g:∀{J:Ζ},H b=some (.lst J)->(∀C d f,H b=some (.ins C d f)->d∈own j)/\∀x,H b=some (.own x)->x∈own j:=λq=>⟨(λ_ _ _ e=>by rw[q]at e;cases e),(λ_ e=>by rw[q]at e;cases e)⟩;by_cases m:j<o.length
 .have s:=h.sl j _ (aj m);cases y:o[j]with
  |und=>rw[y]at s;rw[show own j=[]from s]at a;cases a
  |fz t=>rw[y]at s;rw[s.1]at a;cases a
  |l1 W=>rw[y]at s;obtain⟨c,J,_,w,q,_⟩:=s;rw[w]at a;cases YR.mp a;exact g q
  |l2 E =>
   rw[y]at s;obtain⟨c,D,_,u,_,k,l,r⟩:=s;rw[u]at a;rcases YU.mp a with z|z
   .exact g (z ▸ k)
   .obtain⟨i,n⟩:=aV z;obtain⟨J,q2,_⟩:=r i b _ n (aj (l ▸ (ao.mp n).1));exact g q2
  |d1 v W=>rw[y]at s;obtain⟨c,J,_,w,q,_⟩:=s;rw[w]at a;cases YR.mp a;exact⟨(λ_ _ _ e=>by rw[q]at e;cases e),(λ_ e=>by rw[q]at e;cases e)⟩
  |la c W=>rw[y]at s;obtain⟨J,_,w,q,_⟩:=s;rw[w]at a;cases YR.mp a;exact g q
  |pr W B =>
   rw[y]at s;obtain⟨p,c,e,J,ys,_,w,_,_,k,q2,_⟩:=s;rw[w]at a;rcases YU.mp a with z|z
   .exact g (z ▸ k)
   .cases YR.mp z;exact g q2
  |gh A t=>rw[y]at s;rw[s.1]at a;cases a
  |ob c d F v W =>
   rw[y]at s;obtain⟨J,_,w,q,q2,_⟩:=s;rw[w]at a ⊢;rcases YU.mp a with z|z
   .refine⟨λ_ _ _ e=>?_,λ_ e=>?_⟩
    .rw[z,q]at e;cases e;simp
    .rw[z,q]at e;cases e
   .cases YR.mp z;refine⟨λ_ _ _ e=>?_,λ_ e=>?_⟩
    .rw[q2]at e;cases e
    .rw[q2]at e;cases e;simp
 .obtain⟨J,q⟩:=h.out j (Nat.not_lt.mp m) b a;exact g q
def SR.hid{o:xy}(h:SR K own H O o):mu H (Ow own) :=
 ⟨λb z=>h.sole z,λa C d c ⟨j,z⟩ e=>⟨j,(h.mate z).1 C d c e⟩,λb x ⟨j,z⟩ e=>⟨j,(h.mate z).2 x e⟩⟩
def cH(S:Addr->Prop)(H G:Hp):Hp:=λb=>open Classical in if S b then H b else G b
def wU{G:Hp}(h:S b):cH S H G b=H b:=by unfold cH;rw[ZY h]
def jX{G:Hp}(h:¬S b):cH S H G b=G b:=by unfold cH;rw[ZZ h]
def gp(sp:Sp):Sp:=λa H Q _=>∃S:Addr->Prop,mu H S/\sp a (hd S H) (λv G=>(∀b,S b->G b=none)->Q v (cH S H G)) λ_ _ _=>False
def bW.hid(F:bW P w K mg base ab k f fd ps sp):bW P w K mg base ab k f fd ps (gp sp):=by
 refine⟨λD H Q E h=>?_,λA j s H O us D Q E hr i Z r h=>?_⟩
 .obtain⟨S,_,z⟩:=h;exact F.len D _ _ _ z
 obtain⟨S,t,z⟩:=h;have l:∀{b:Addr},H b=none->hd S H b=none:=λ{b}e=>by
  by_cases z:S b
  .exact sU z
  .rw[cX z];exact e
 have R:∀{b:Addr}{u:HO},S b->H b=some u->(∀J,u≠.tup J)/\(∀o v,u≠.frz o v)/\∀ps,u≠.tbl ps:=λ{b u}z e=>by
  obtain⟨o,q,w⟩:=t.sole b z;rw[e]at q;cases q;rcases w with⟨_,rfl⟩|⟨_,rfl⟩|⟨_,_,_,rfl⟩|⟨_,rfl⟩<;>exact⟨λ_ z=>(nomatch z),λ_ _ z=>(nomatch z),λ_ z=>(nomatch z)⟩
 have e1:Mw P w K mg base A j s (hd S H):=⟨i.frames,i.mod,λb o e=>⟨(i.bs b o e).1,l (i.bs b o e).2⟩,i.bsz,i.funs,λb Z=>l (i.frf b Z),λb u e=>by
  obtain⟨nb,T⟩:=cW e;refine(i.hok b u T).stay (λ_ _ _ z=>z) (λd z=>?_) λd J z=>?_
  .rw[cX λy=>nb (t.own d b y z)];exact z
  .rw[cX λy=>(R y z).1 J rfl];exact z,i.bare⟩
 refine codeAny_mono (F.run A j s (hd S H) O us D _ _ hr e1 Z r z) λU s' L=>?_;cases U with
 |error e=>exact L.elim
 |ok fl =>
  cases fl with
  |next=>exact False.elim L
  |brk=>exact False.elim L
  |cont=>exact False.elim L
  |ret u =>
   obtain⟨v,G,os,N,m,Y,rv,q⟩:=L;have p:∀{b:Addr},S b->∃o,s.heap.get? b=some o:=λ{b}y=>by
    obtain⟨u,e,w⟩:=t.sole b y;have x:=i.hok b u e;rcases w with⟨J,rfl⟩|⟨kk,rfl⟩|⟨C,d,f,rfl⟩|⟨y,rfl⟩
    .obtain⟨_,_,_,_,g⟩:=x;exact⟨_,g⟩
    .obtain⟨_,_,_,_,_,_,_,g,_⟩:=x;exact⟨_,g⟩
    .obtain⟨_,_,_,g,_⟩:=x;exact⟨_,g⟩
    .exact x
   have a:∀{b:Addr}{o:Obj},S b->s.heap.get? b=some o->s'.heap.get? b=some o:=λ{b o}y e=>m.keep b o e (sU y) (λz=>(t.sole b y).ne (i.frf b z)) wr;have aE:∀b,S b->G b=none:=λb y=>by
    obtain⟨o,ho⟩:=p y;exact m.free b o ho (sU y) wr
   have W:∀{b:Addr}{u:HO},G b=some u->¬S b:=λe z=>by rw[aE _ z]at e;cases e
   have M:∀{b:Addr}{u:HO},G b=some u->cH S H G b=some u:=λe=>(jX (W e)).trans e;refine⟨v,cH S H G,os,N,⟨λb o e n=>m.keep b o e (l n),λb o e n=>m.slot b o e (l n),λb o e n z=>?_,m.there,λb J e=>?_,λb o u e=>?_,λb ps e=>?_⟩,λb u e=>?_,rv,q aE⟩
   .rw[jX λy=>(t.sole b y).ne n];exact m.free b o e (l n) z
   .have n:¬S b:=λy=>(R y e).1 J rfl;exact M (m.tups b J ((cX n).trans e))
   .have n:¬S b:=λy=>(R y e).2.1 o u rfl;exact M (m.frzs b o u ((cX n).trans e))
   .have n:¬S b:=λy=>(R y e).2.2 ps rfl;obtain⟨I,this⟩:=m.tbls b ps ((cX n).trans e);exact⟨I,M this⟩
   .by_cases z:S b
    .rw[wU z]at e;have x:=i.hok b u e;obtain⟨u',T,w⟩:=t.sole b z;rw[e]at T;cases T;rcases w with⟨J,rfl⟩|⟨kk,rfl⟩|⟨C,d,f,rfl⟩|⟨y,rfl⟩
     .obtain⟨B,X,n,r,g⟩:=x;exact⟨B,X,n,r,a z g⟩
     .obtain⟨B,y,D,r,V,es,ep,g,c⟩:=x;exact⟨B,y,D,r,V,es,ep,a z g,c⟩
     .obtain⟨d1,B,ne,g,mA,⟨od,es,ep,e3,c⟩,r⟩:=x;have sd:=t.ins b C d f z e;exact⟨(wU sd).trans d1,B,ne,a z g,mA,⟨od,es,ep,a sd e3,c⟩,r⟩
     .obtain⟨V,g⟩:=x;exact⟨V,a z g⟩
    .rw[jX z]at e;exact(Y b u e).stay (λ_ _ _ z=>z) (λd z=>M z) λd J z=>M z
abbrev ST:=xj->(OT->Prop)->Prop
def am(K:Frag)(S:ST):Sp:=λa H Q _=>∃W R,bV K H a W/\S W R/\∀Y v x,R x->z0 H Y->NR K (λ_=>False) H Y v x->Q v Y
abbrev ag(P:Program)(w:World)(K:Frag)(mg:Str->Ω)(base:Heap)(k:Nat)(x:Str)(ps:Φ)(S:ST):Prop:=dL P w K mg base k x ps (am K S)
def og:RA:=λ_ q=>q []
def DB(a:RE)(r:RA):RA:=λo q=>a o λx=>r o λW=>q (frz x::W)
def bC:QA X [] og:=zW.imp λO H Q b=>by obtain⟨own,o,R,h,a,k⟩:=b;exact k H [] [] a rfl (.refl _) .nil
def tQA.mk{o:xy}{R:xj->Prop}{Q:Ζ->Hp->Prop}(h:SR K own H O o)(b:r o R)(k:∀Y a W,R W->W.length=n->z0 H Y->bV K (hd (Ow own) Y) a W->Q a Y):tQA K n r O H Q:=⟨own,o,R,h,b,k⟩
def bx{e:Expr}{a:RE}(m:QE X e a)(b:QA X es r)(l:qS X e es:=by rfl):QA X (e::es) (DB a r):=(f9 m b l).imp λO H Q ⟨own,o,R,h,b,k⟩ =>
 tQ.mk h b λZ v x q d i=>tQA.mk (h.same d) q λn f W q2 j c g=>k n (v::f) (frz x::W) q2 (ZH (· + 1) j) (d.trans c) (.cons (i.same (bU c)) g)
def o2(S:ST)(r:RA):RE:=λo q=>r o λW=>S W q
def bI{e:Expr}{x:Str}{S:ST}(G:ag X.prog X.w X.K X.mg X.base k x ps S)(c:QA X (e::es) r)(d:dX k X.A:=by exact dX.mono (by assumption) wf)(D:Gl X x:=by rfl)(L:qV x:=by decide)
 (I:qS X e es:=by rfl)(M:qE X N es:=by rfl):QE X (.Call (.Name x p) (e::es) [] N) (o2 S r):=by
 obtain⟨f,fd,F,b,C,y⟩:=G;refine(sH (sp:=gp (am X.K S)) ⟨f,fd,F.hid,b,C,y⟩ d D c L I M).imp λO H Q ⟨own,o,R,h,d,k⟩=>tQA.mk h d λZ T W q _ i m=>?_;have J:=h.same i;refine⟨Ow own,J.hid,W,R,m,q,λG v x l E n g=>?_⟩;have P:z0 Z (cH (Ow own) Z G):=λb u e=>by
  by_cases z:Ow own b
  .rw[wU z];exact e
  .rw[jX z];exact E b u ((cX z).trans e)
 have j:z0 G (cH (Ow own) Z G):=λb u e=>by rw[jX λz=>by rw[g b z]at e;cases e];exact e
 refine k _ v x l (i.trans P) (NR.back (H:=Z) ?_ i);obtain⟨B,t,s⟩:=n;have out:∀a∈B,¬Ow own a:=λa c z=>(s.sole c).ne (g a z);refine⟨B,λa c=>by have:=t a c;rwa[cX (out a c)]at this,s.same (jG (λb z=>?_) j) j⟩;rcases z with z|z
 .exact .inr (g b z)
 .exact .inl (.inr z)
def rB(a:RE):RT:=λo q=>a o λx=>match frz x with|.bl b=>q b|_=>False
def FO:T->(Bool->Prop)->Prop
 |.bl b,q=>q b
 |.int i,q=>q (i != 0)
 |.non,q=>q false
 |.lst W,q=>q (!W.isEmpty)
 |.tup W,q=>q (!W.isEmpty)
 |_,_=>False
def HM(a:RE):RT:=λo q=>a o λx=>FO (frz x) q
def n4(a b:RT):RT:=λo q=>a o λc=>sw c (b o q) (q false)
def mI(a b:RT):RT:=λo q=>a o λc=>sw c (q true) (b o q)
def Kx(a:RT):RT:=λo q=>a o λc=>q (!c)
def MX(a b:RE):RE:=λo q=>a o λx=>match frz x with|.bl c=>sw c (b o q) (q (.fz (.bl false)))|_=>False
def MH(a:RE):RE:=λo q=>a o λx=>match frz x with|.bl c=>q (.fz (.bl (!c)))|_=>False
def GA(c:RT)(a b:RE):RE:=λo q=>c o λk=>sw k (a o q) (b o q)
def tQT.mk{o:xy}{r:RT}{R:Bool->Prop}{Q:Bool->Hp->Prop}(h:SR K own H O o)(a:r o R)(k:∀Y b,R b->z0 H Y->Q b Y):tQT K r O H Q:=⟨own,o,R,h,a,k⟩
def Rep.isEmpty{K:Frag}{F:Hp}{J:Ζ}{W:xj}(h:bV K F J W):J.isEmpty=W.isEmpty:=by cases h<;>rfl
def LK{c:Bool}{p q b a:Prop}(h:sw c p q)(i:p->b)(j:q->a):if c=true then b else a:=by
 cases c
 .exact Lc (j h)
 .exact II (i h)
section
variable{X:Cx}{a b c:Expr}{ra rb rc:RE}{qa qb qc:RT}{N:Pos}{rest:xw}
def cj(e:GO X (compareOp op) g)(j:QE X a ra)(i:QE X b rb)(f:behindInMarks op b=false:=by exact ES _):QT X (.Compare a [op] [b] N) (rB (f4 g ra rb)) :=
 (T' e j i f).imp λO H Q ⟨own,o,R,h,d,k⟩=>q2 (ra:=ra) (rb:=rb) (tQ.mk h d λZ v x q l c=>by
  revert c q
  generalize frz x=t;intro q c;cases c<;>try exact q.elim
  exact⟨_,rfl,k _ _ q l⟩)
def cN(i:QE X a ra)(g:∀d,isTrue a X.env d=(do let v <- d;standAt a.pos;holding [v] (truthy v)):=by exact λ_=>rfl):QT X a (HM ra):=(__ i g).imp λO H Q ⟨own,o,R,h,f,k⟩=>tQ.mk h f λZ v x q c b=>by
 revert b q
 generalize frz x=t;intro q b;cases t<;>try exact q.elim
 .cases b;exact⟨false,rfl,k _ _ q c⟩
 .cases b;exact⟨_,rfl,k _ _ q c⟩
 .cases b;exact⟨_,rfl,k _ _ q c⟩
 .obtain⟨p,J,rfl,e,r⟩:=b.tupI;exact⟨_,.inr (.inl ⟨J,dW.tup e,rfl⟩),by rw[Rep.isEmpty r];exact k _ _ q c⟩
 .obtain⟨p,J,rfl,e,r⟩:=b.lstI;exact⟨_,.inl ⟨J,.of (cW e).2,rfl⟩,by rw[Rep.isEmpty r];exact k _ _ q c⟩
def cY(d:QT X a qa):QT X (.UnaryOp .Not a N) (Kx qa):=(NO d).imp λO H Q e=>by obtain⟨own,o,R,h,c,k⟩:=e;exact tQT.mk h c λZ b q f=>k Z _ q f
def Rk(b:QT X a qa):QW X (.BoolOp .And [a] N) qa:=pw_and1 b
def eX(b:QT X a qa):QW X (.BoolOp .Or [a] N) qa:=pw_or1 b
def Te(i:QT X a qa)(g:QW X (.BoolOp .And (b::rest) N) qb):QW X (.BoolOp .And (a::b::rest) N) (n4 qa qb):=(pw_and i g).imp λO H Q j=>by obtain⟨own,o,R,h,f,k⟩:=j;exact tQT.mk h f λZ c q e=>LK q (λq=>tQT.mk (h.same e) q λl d q m=>k l d q (e.trans m)) λq=>k Z _ q e
def g8(i:QT X a qa)(g:QW X (.BoolOp .Or (b::rest) N) qb):QW X (.BoolOp .Or (a::b::rest) N) (mI qa qb):=(pw_or i g).imp λO H Q j=>by obtain⟨own,o,R,h,f,k⟩:=j;exact tQT.mk h f λZ c q e=>LK q (λq=>k Z _ q e) λq=>tQT.mk (h.same e) q λl d q m=>k l d q (e.trans m)
def QW.qt(h:QW X a qa):QT X a qa:=PW.pt h
def K5{op}(h:QE X a ra):QE X (.BoolOp op [a] N) ra:=Oy h
def Le(g:QE X a ra)(f:QE X (.BoolOp .And (b::rest) N) rb):QE X (.BoolOp .And (a::b::rest) N) (MX ra rb):=(SF g f).imp λO H Q ⟨own,o,R,h,e,k⟩=>tQ.mk h e λZ v x q c d=>by
 revert d q
 generalize frz x=t;intro q d;cases d<;>try exact q.elim
 exact⟨_,rfl,LK q (λq=>⟨own,o,R,h.same c,q,λi v x q j n=>k i v x q (c.trans j) (n.back c)⟩) λq=>k Z _ _ q c (NR.fz (.bl _))⟩
def Kq(d:QE X a ra):QE X (.UnaryOp .Not a N) (MH ra):=(PP d).imp λO H Q ⟨own,o,R,h,c,k⟩=>tQ.mk h c λZ v x q e b=>by
 revert b q
 generalize frz x=t;intro q b;cases b<;>try exact q.elim
 exact⟨_,rfl,k Z _ _ q e (NR.fz (.bl _))⟩
def Pb{c:Expr}(i:QT X c qc)(l:QE X a ra)(j:QE X b rb):QE X (.IfExp c a b N) (GA qc ra rb):=(_y i l j).imp λO H Q ⟨own,o,R,h,g,k⟩=>tQT.mk h g λZ c q d =>
 LK q (λq=>⟨own,o,R,h.same d,q,λe v x q f n=>k e v x q (d.trans f) (n.back d)⟩) λq=>⟨own,o,R,h.same d,q,λe v x q f n=>k e v x q (d.trans f) (n.back d)⟩
def mM(g d:zn)(a b c:RE):RE:=λo q=>a o λx=>b o λy=>g (frz x) (frz y) λz=>match frz z with|.bl k=>sw k (c o λw=>d (frz y) (frz w) q) (q (.fz (.bl false)))|_=>False
def q3{C:CmpOp}{l:zn}(G:GO X (compareOp op) g)(I:GO X (compareOp C) l)(h:tQ X.K (mM g l ra rb rc) O H Q):Xq (λx y H Q=>∃S t u R,(∀b,S b->H b≠none)/\Rep X.K (hd S H) x t/\Rep X.K (hd S H) y u/\g t u R/\∀Y v z,R z->z0 H Y->NR X.K S H Y v z->Q v Y) (λx y H Q=>∃S t u R,(∀b,S b->H b≠none)/\Rep X.K (hd S H) x t/\Rep X.K (hd S H) y u/\l t u R/\∀Y v z,R z->z0 H Y->NR X.K S H Y v z->Q v Y) (tQ X.K ra) (tQ X.K rb) (tQ X.K rc) O H Q:=by
 obtain⟨own,o,R,h,B,k⟩:=h;refine tQ.mk h B λZ v x q e s=>tQ.mk (h.same e) q λL w y q2 d m=>?_;have j:=h.same (e.trans d);refine⟨Ow own,_,_,_,λb z=>(j.sole z).ne,s.same (bU d),m,q2,λD u z a c n=>?_⟩;have i:=n.rep λb z=>(j.sole z).ne
 revert i a
 generalize frz z=t;intro a i;cases i<;>try exact a.elim
 have p:=j.same c;refine⟨_,rfl,LK a (λq=>tQ.mk p q λJ F z A f r=>⟨Ow own,_,_,R,λb z=>((p.same f).sole z).ne,m.same (bU (c.trans f)),r,A,λY u z a E n=>k Y u z a (e.trans (d.trans (c.trans (f.trans E)))) (n.back (e.trans (d.trans (c.trans f))))⟩) λq=>k D _ _ q (e.trans (d.trans c)) (NR.fz (.bl _))⟩
def V5{d:CmpOp}{f:zn}(e:GO X (compareOp op) g)(h:GO X (compareOp d) f)(l:QE X a ra)(k:QE X b rb)(j:QE X c rc)(i:lastMarks [op,d] [b,c]=false:=by with_unfolding_all rfl):QE X (.Compare a [op,d] [b,c] N) (mM g f ra rb rc):=(adY e h l k j i).imp λ_ _ _=>q3 e h
def Fj{e:CmpOp}{i:zn}(f:GO X (compareOp op) g)(j:GO X (compareOp e) i)(p:QE X a ra)(n:QE X b rb)(hc:QE X c rc)(m:lastMarks [op,e] [b,c]=false:=by with_unfolding_all rfl):QT X (.Compare a [op,e] [b,c] N) (rB (mM g i ra rb rc)) :=
 (_6 f j p n hc m).imp λO H Q ⟨own,o,R,h,l,k⟩=>q3 (ra:=ra) (rb:=rb) (rc:=rc) f j (tQ.mk h l λZ v x q r d=>by
  revert d q
  generalize frz x=t;intro q d;cases d<;>try exact q.elim
  exact⟨_,rfl,k _ _ q r⟩)
end
def dq{α:Type} : List α->Nat->Option α
 |[],_=>none
 |x::_,0=>some x
 |_::l,n+1=>dq l n
theorem qm{α:Type} : ∀(l:List α)(n:Nat),dq l n=l[n]?
 |[],_=>rfl
 |_::_,0=>rfl
 |_::l,n+1=>by simpa[dq]using qm l n
def ca(W:List α):Int->Option α
 |.ofNat n=>dq W n
 |.negSucc n=>dq W.reverse n
def Yi(W:List α)(i:Int):ca W i=dv W i:=by
 unfold ca dv c6;cases i with
 |ofNat n =>
  show dq W n=_;rw[qm,ZY (show 0<=Int.ofNat n from WZ n)];by_cases h:n<W.length
  .rw[ZY (by show(n:Int)<_;lia)];rfl
  .rw[ZZ (by show ¬(n:Int)<_;lia),aM (Nat.not_lt.mp h)];rfl
 |negSucc n =>
  show dq W.reverse n=_;rw[qm,ZZ wp];by_cases h:n<W.length
  .rw[ZY wp,List.getElem?_reverse h];show _=W[_]?;rw[show(Int.negSucc n+(W.length:Int)).toNat=W.length-1-n by lia]
  .rw[ZZ wp,aM (by rw[List.length_reverse];exact VS h)];rfl
def bV.ix{F:Hp}{i:Int}(h:bV K F J W)(e:ca W i=some t):∃x,dv J i=some x/\Rep K F x t:=by
 rw[Yi]at e;unfold dv at e ⊢;rw[h.len];cases j:c6 W.length i with
 |none=>rw[j]at e;cases e
 |some n=>rw[j]at e;exact h.at_ e
def oT(x:Option α)(q:α->Prop):Prop:=match x with|some t=>q t|none=>False
def CU{x:Option α}{q:α->Prop}(h:oT x q):∃t,x=some t/\q t:=by
 cases x with
 |none=>exact h.elim
 |some t=>exact⟨t,rfl,h⟩
def nV:zn
 |.tup W,.int i,q=>oT (ca W i) λt=>q (.fz t)
 |.lst W,.int i,q=>∃t,ca W i=some t/\q (.fz t)
 |.scr W,.int i,q=>∃t,ca W i=some t/\q (.fz t)
 |.str s,.int i,q=>s.length<=sizeLine/\∃c,ca s.cps.toList i=some c/\q (.fz (.str ⟨#[c]⟩))
 |_,_,_=>False
section
variable{X:Cx}{a b c e:Expr}{ra rb rc re:RE}{qa qb qc:RT}{N p2:Pos}{lo hi:Option Expr}
def GW:IxR X (λx y H Q=>∃S t u R,(∀b,S b->H b≠none)/\Rep X.K (hd S H) x t/\Rep X.K (hd S H) y u/\nV t u R/\∀Y v z,R z->z0 H Y->NR X.K S H Y v z->Q v Y):=by
 refine(B_.or (Po.or SL)).imp λx y H Q h=>?_;obtain⟨S,t,u,R,_,g,l,a,k⟩:=h;cases u with
 |int i=>?_
 |_=>cases t<;>exact a.elim
 cases l;cases t with
 |any=>exact a.elim
 |non=>exact a.elim
 |bl _=>exact a.elim
 |int _=>exact a.elim
 |val _=>exact a.elim
 |dct _ _=>exact a.elim
 |ins _ _ _=>exact a.elim
 |exc _ _ _=>exact a.elim
 |str s=>?_
 |tup W=>?_
 |lst W=>?_
 |scr W=>?_
 .cases g;obtain⟨z,c,e,q⟩:=a;rw[Yi]at e;exact .inr (.inr ⟨_,_,c,rfl,rfl,z,e,k H _ _ q (.refl _) (NR.fz (.str _))⟩)
 .obtain⟨p,J,rfl,e,r⟩:=g.tupI;obtain⟨t,j,q⟩:=CU a;obtain⟨v,f,d⟩:=r.ix j;exact .inr (.inl ⟨p,J,i,v,rfl,rfl,dW.tup e,f,k H _ _ q (.refl _) (NR.fz d)⟩)
 .obtain⟨p,J,rfl,e,r⟩:=g.lstI;obtain⟨t,j,q⟩:=a;obtain⟨v,f,d⟩:=r.ix j;exact .inl ⟨p,J,_,v,rfl,rfl,.of (cW e).2,f,k H _ _ q (.refl _) (NR.fz d)⟩
 .obtain⟨p,J,rfl,e,r⟩:=g.scrI;obtain⟨t,j,q⟩:=a;obtain⟨v,f,d⟩:=r.ix j;exact .inl ⟨p,J,_,v,rfl,rfl,dW.seq e,f,k H _ _ q (.refl _) (NR.fz d)⟩
def bJ(e:QE X a ra)(d:QE X b rb)(c:wI b:=by exact λ_ _=>rfl):QE X (.Subscript a b N) (f4 nV ra rb):=(Qj GW e d c).imp λ_ _ _=>q2
abbrev RO:=xy->(xo->Prop)->Prop
def FY(K:Frag)(r:RO):TO:=λO H Q=>∃own o R,SR K own H O o/\r o R/\∀Y b,R b->z0 H Y->Q b Y
def QO(X:Cx)(e:Option Expr)(r:RO):Prop:=PO X e (FY X.K r)
def LW:RO:=λ_ q=>q none
def L4(a:RE):RO:=λo q=>a o λx=>match frz x with|.int i=>q (some i)|_=>False
def PO.imp{X:Cx}{e:Option Expr}{t a:TO}(h:PO X e t)(i:∀O H Q,a O H Q->t O H Q):PO X e a:=λU s O H Q I q=>h U s O H Q I (i O H Q q)
def QJ:QO X none LW:=_Z.imp λO H Q b=>by obtain⟨own,o,R,h,a,k⟩:=b;exact k H _ a (.refl _)
def j6(h:QE X e re):QO X (some e) (L4 re):=(_d h).imp λO H Q ⟨own,o,R,h,b,k⟩=>tQ.mk h b λZ v x q c a=>by
 revert a q
 generalize frz x=t;intro q a;cases a<;>try exact q.elim
 exact⟨_,rfl,k _ _ q c⟩
def j9(J:List α)(lo hi:xo):List α:=(J.drop (HT.sIx J.length 0 lo)).take (HT.sIx J.length J.length hi-HT.sIx J.length 0 lo)
def bV.cut{F:Hp}(h:bV K F J W)(lo hi:xo):bV K F (h7 J lo hi) (j9 W lo hi):=by
 unfold h7 j9;rw[h.len];exact(h.drop _).take _
def GY:T->xo->xo->(OT->Prop)->Prop
 |.lst W,lo,hi,q=>q (.l1 (j9 W lo hi))
 |.scr W,lo,hi,q=>q (.l1 (j9 W lo hi))
 |.str s,lo,hi,q=>s.length<=sizeLine/\q (.fz (.str (JM s lo hi)))
 |_,_,_,_=>False
def F_(a:RE)(lo hi:RO):RE:=λo q=>a o λx=>lo o λl=>hi o λu=>GY (frz x) l u q
def pY{g i:RO}(w:QE X e re)(s:QO X lo g)(m:QO X hi i):QE X (.Subscript e (.Slice lo hi none p2) N) (F_ re g i):=(_q (Vc.or Pl) w s m).imp λO H Q ⟨own,o,R,h,n,k⟩ =>
 tQ.mk h n λZ v x q f b=>⟨own,o,_,h.same f,q,λz l q d=>⟨own,o,_,(h.same f).same d,q,λy u q j=>by
  have E:=f.trans (d.trans j);have b:=b.same (bU (d.trans j))
  revert b q
  generalize frz x=t;intro q b;cases t<;>try exact q.elim
  .cases b;exact .inr ⟨_,rfl,q.1,k _ _ _ q.2 E (NR.fz (.str _))⟩
  .obtain⟨p,J,rfl,e,r⟩:=b.lstI;exact .inl ⟨p,J,rfl,.of (cW e).2,λa c=>k _ _ _ q (E.trans (z0.upd c)) ((Dw (r.cut l u) (z0.upd c) c cF).back E)⟩
  .obtain⟨p,J,rfl,e,r⟩:=b.scrI;exact .inl ⟨p,J,rfl,dW.seq e,λa c=>k _ _ _ q (E.trans (z0.upd c)) ((Dw (r.cut l u) (z0.upd c) c cF).back E)⟩⟩⟩
end
section
variable{X:Cx}{e:Expr}{es:xw}{r:RA}{N:Pos}
def vk(r:RA):RE:=λo q=>r o λW=>q (.fz (.tup W))
def BF(r:RA):RE:=λo q=>r o λW=>q (.l1 W)
def dh(h:QA X es r)(e:es.length<=sizeLine:=by decide):QE X (.Tuple es k N) (vk r):=(SU h).imp λO H Q ⟨own,o,R,h,f,k⟩=>tQA.mk h f λZ g W q d c b =>
 ⟨by rw[b.len,d];exact e,λp a=>k _ _ _ q (c.trans (z0.upd a)) (NR.fz (.tup (.of (by rw[cX λz=>(h.sole z).ne (c.free a)];exact cF)) (b.same (bU (z0.upd a)))))⟩
def eF(h:QA X es r)(e:es.length<=sizeLine:=by decide):QE X (.List es N) (BF r):=(Re h).imp λO H Q ⟨own,o,R,h,f,k⟩=>tQA.mk h f λZ g W q d c b =>
 ⟨by rw[b.len,d];exact e,λp a=>k _ _ _ q (c.trans (z0.upd a)) ((Dw b (z0.upd a) a cF).back c)⟩
def GC(X:Cx)(f:Value)(g:ST):Prop:=kW X f λJ H Q=>∃S W R,(∀b,S b->H b≠none)/\bV X.K (hd S H) J W/\g W R/\∀Y v z,R z->z0 H Y->NR X.K S H Y v z->Q v Y
variable{x:Str}{p:Pos}{id Ty:String}{g:ST}
def bY(t:GC X (.builtin id) g)(l:X.mg x=none)(f:bootBuiltins x=some (.builtin id))(u:QA X (e::es) r)(m:Gl X x:=by rfl)(j:x≠"__name__":=by decide)(y:qV x:=by decide)
 (s:qS X e es:=by rfl)(A:qE X N es:=by rfl):QE X (.Call (.Name x p) (e::es) [] N) (o2 g r) :=
 (Ux t m l f u j y s A).imp λO H Q w=>by obtain⟨own,o,R,h,i,k⟩:=w;exact tQA.mk h i λZ B W q _ a d=>⟨Ow own,W,R,λb z=>((h.same a).sole z).ne,d,q,λY v z c E n=>k Y v z c (a.trans E) (n.back a)⟩
def oV(t:GC X (.type Ty) g)(l:X.mg x=none)(f:bootBuiltins x=some (.type Ty))(u:QA X (e::es) r)(m:Gl X x:=by rfl)(j:x≠"__name__":=by decide)(y:qV x:=by decide)
 (s:qS X e es:=by rfl)(A:qE X N es:=by rfl):QE X (.Call (.Name x p) (e::es) [] N) (o2 g r) :=
 (aaQ t m l f u j y s A).imp λO H Q w=>by obtain⟨own,o,R,h,i,k⟩:=w;exact tQA.mk h i λZ B W q _ a d=>⟨Ow own,W,R,λb z=>((h.same a).sole z).ne,d,q,λY v z c E n=>k Y v z c (a.trans E) (n.back a)⟩
def bV.one{F:Hp}(h:bV K F J [t]):∃x,J=[x]/\Rep K F x t:=by
 cases h with
 |cons a b=>cases b;exact⟨_,rfl,a⟩
def bV.two{F:Hp}{u:T}(h:bV K F J [t,u]):∃x y,J=[x,y]/\Rep K F x t/\Rep K F y u:=by
 cases h with
 |cons a b =>
  obtain⟨y,rfl,c⟩:=b.one;exact⟨_,y,rfl,a,c⟩
def g1(g:T->(OT->Prop)->Prop):ST:=λW q=>match W with|[t]=>g t q|_=>False
def GC.one{f:Value}{g:T->(OT->Prop)->Prop}{r:Ζ->Hp->VK->Prop}(h:kW X f r)(i:∀S t x H Q R,Rep X.K (hd S H) x t->g t R->(∀Y v z,R z->z0 H Y->NR X.K S H Y v z->Q v Y)->r [x] H Q):GC X f (g1 g):=h.imp λJ H Q d=>by
 obtain⟨S,W,R,_,c,a,k⟩:=d
 match W,a with
 |[t],a =>
  obtain⟨x,rfl,b⟩:=c.one;exact i S t x H Q R b a k
def LS:T->(OT->Prop)->Prop
 |.lst W,q=>q (.fz (.int W.length))
 |.tup W,q=>q (.fz (.int W.length))
 |.scr W,q=>q (.fz (.int W.length))
 |_,_=>False
def eG:GC X (.builtin "len") (g1 LS):=.one Qw λS t x H Q R b a k=>by
 cases t<;>try exact a.elim
 .obtain⟨p,J,rfl,e,r⟩:=b.tupI;exact⟨p,J,rfl,.inr (dW.tup e),k H _ _ a (.refl _) (NR.fz (by rw[r.len];exact .int _))⟩
 .obtain⟨p,J,rfl,e,r⟩:=b.lstI;exact⟨p,J,rfl,.inl (.of (cW e).2),k H _ _ a (.refl _) (NR.fz (by rw[r.len];exact .int _))⟩
 .obtain⟨p,J,rfl,e,r⟩:=b.scrI;exact⟨p,J,rfl,.inl (dW.seq e),k H _ _ a (.refl _) (NR.fz (by rw[r.len];exact .int _))⟩
def Jn:T->(OT->Prop)->Prop
 |.str s,q=>s.length<=sizeLine/\q (.fz (.int s.length))
 |_,_=>False
def IT:T->(OT->Prop)->Prop
 |.dct a _,q=>q (.fz (.int a.length))
 |_,_=>False
def aax:kW X (.builtin "len") (λJ H Q=>∃p a,J=[.ref p]/\Rd H p (.dK a)/\Q (.int a.length) H):=by
 intro U s O H J j Q I r h;obtain⟨p,a,rfl,b,q⟩:=h;obtain⟨u,rfl,e⟩:=vals1 r;cases e;have d:a.length<=sizeLine/\(p==sysModules)=false/\∃c,KV a c/\s.heap.DictOf (kJ X.prog X.w) p c:=by
  rcases b with b|⟨o,b⟩
  .exact I.hok p _ b
  .exact(I.hok p _ b).2
 obtain⟨k,g,c,f,m⟩:=d;have l:=Az;have i:a.length=c.length:=f.length;exact call_len_dict g m wp ⟨.int a.length,H,I.tok _,⟨_,by rw[i]⟩,q⟩
def EZ:GC X (.builtin "len") (g1 IT):=.one aax λS t x H Q R b a k=>by
 cases t<;>try exact a.elim
 obtain⟨p,J,rfl,e,l,r⟩:=b.dctI;exact⟨p,_,rfl,dW.rd e,k H _ _ a (.refl _) (NR.fz (by rw[VZ,l,UV];exact .int _))⟩
def I0:T->(OT->Prop)->Prop
 |.int i,q=>q (.fz (.int i.natAbs))
 |_,_=>False
def L_:GC X (.builtin "abs") (g1 I0):=.one _7 λS t x H Q R b a k=>by
 cases t<;>try exact a.elim
 cases b;exact⟨_,rfl,k H _ _ a (.refl _) (NR.fz (by rw[P1];exact .int _))⟩
theorem bV.ints{K:Frag}{F:Hp} : ∀{J:Ζ}{c:xm},bV K F J (c.map T.int)->J=c.map V.int
 |_,[],.nil=>rfl
 |_,n::c,.cons a b=>by cases a;rw[bV.ints b];rfl
theorem bV.bls{K:Frag}{F:Hp} : ∀{J:Ζ}{c:wx},bV K F J (c.map T.bl)->J=c.map V.bl
 |_,[],.nil=>rfl
 |_,n::c,.cons a b=>by cases a;rw[bV.bls b];rfl
theorem HW{K:Frag}{F:Hp} : ∀(a:xm),bV K F (a.map V.int) (a.map T.int)
 |[]=>.nil
 |_::a=>.cons (.int _) (HW a)
def HE:T->(OT->Prop)->Prop
 |.lst W,q=>∃a:xm,W=a.map T.int/\q (.fz (.int a.sum))
 |_,_=>False
def YW(hc:X.calm):GC X (.builtin "sum") (g1 HE):=.one (aaz hc) λS t x H Q R b a k=>by
 cases t<;>try exact a.elim
 obtain⟨p,J,rfl,e,r⟩:=b.lstI;obtain⟨c,rfl,q⟩:=a;exact⟨p,c,rfl,(r.ints ▸ (cW e).2),k H _ _ q (.refl _) (NR.fz (.int _))⟩
def Cn(f:wx->Bool):T->(OT->Prop)->Prop
 |.lst W,q=>∃a:wx,W=a.map T.bl/\q (.fz (.bl (f a)))
 |_,_=>False
def Xf(hc:X.calm):GC X (.builtin "all") (g1 (Cn λf=>f.all λb=>b)):=.one (aaZ hc) λS t x H Q R c a k=>by
 cases t<;>try exact a.elim
 obtain⟨p,J,rfl,e,r⟩:=c.lstI;obtain⟨d,rfl,q⟩:=a;exact⟨p,d,rfl,(r.bls ▸ (cW e).2),k H _ _ q (.refl _) (NR.fz (.bl _))⟩
def SB(hc:X.calm):GC X (.builtin "any") (g1 (Cn λf=>f.any λb=>b)):=.one (abF hc) λS t x H Q R c a k=>by
 cases t<;>try exact a.elim
 obtain⟨p,J,rfl,e,r⟩:=c.lstI;obtain⟨d,rfl,q⟩:=a;exact⟨p,d,rfl,(r.bls ▸ (cW e).2),k H _ _ q (.refl _) (NR.fz (.bl _))⟩
def HR:T->(OT->Prop)->Prop
 |.lst W,q=>∃a:xm,W=a.map T.int/\a.length<64/\∀b:xm,b.Perm a->b.Pairwise (· <= ·)->q (.l1 (b.map T.int))
 |_,_=>False
def abo:GC X (.builtin "sorted") (g1 HR):=.one aaV λS t x H Q R f d k=>by
 cases t<;>try exact d.elim
 obtain⟨p,J,rfl,e,r⟩:=f.lstI;obtain⟨g,rfl,l,q⟩:=d;exact⟨p,g,rfl,(r.ints ▸ (cW e).2),l,λc a b i h=>k _ _ _ (q c i h) (z0.upd b) (Dw (HW c) (z0.upd b) b cF)⟩
def MI:T->(OT->Prop)->Prop
 |.lst W,q=>q (.l1 W)
 |_,_=>False
def Tp:GC X (.type "list") (g1 MI):=.one Xm λS t x H Q R d c k=>by
 cases t<;>try exact c.elim
 obtain⟨p,J,rfl,e,r⟩:=d.lstI;exact⟨p,J,rfl,(cW e).2,λa b=>k _ _ _ c (z0.upd b) (Dw r (z0.upd b) b cF)⟩
def KW:T->(OT->Prop)->Prop
 |.int i,q=>q (.fz (.int i))
 |.bl b,q=>q (.fz (.int (if b then 1 else 0)))
 |_,_=>False
def Rp:GC X (.type "int") (g1 KW):=.one abl λS t x H Q R b a k=>by
 cases t<;>try exact a.elim
 .cases b;exact .inr ⟨_,rfl,k H _ _ a (.refl _) (NR.fz (.int _))⟩
 .cases b;exact .inl ⟨_,rfl,k H _ _ a (.refl _) (NR.fz (.int _))⟩
inductive Knd where
 |int|bool|str|list|tuple
def Knd.s:Knd->String
 |.int=>"int"
 |.bool=>"bool"
 |.str=>"str"
 |.list=>"list"
 |.tuple=>"tuple"
def si:Knd->T->Option Bool
 |.int,.int _=>some true
 |.int,.bl _=>some true
 |.bool,.bl _=>some true
 |.str,.str _=>some true
 |.list,.lst _=>some true
 |.tuple,.tup _=>some true
 |_,.any=>none
 |_,.val _=>none
 |_,.scr _=>none
 |_,.ins _ _ _=>none
 |_,.exc _ _ _=>none
 |_,.dct _ _=>none
 |_,_=>some false
def Sl(a:Knd):GC X (.builtin "isinstance") (λW q=>match W with|[t,.val v]=>v=.ty a.s/\oT (si a t) λb=>q (.fz (.bl b))|_=>False):=by
 intro U s O H J f Q I l h;obtain⟨S,W,R,_,u,n,k⟩:=h
 match W,n with
 |[t,.val v],n =>
  obtain⟨x,y,rfl,g,o⟩:=u.two;cases o;obtain⟨rfl,n⟩:=n;obtain⟨b,j,q⟩:=CU n;have m:a.s∈["bool","int","str","list","tuple","dict"]:=by cases a<;>decide
  cases t with
  |tup W =>
   obtain⟨p,ys,rfl,e,r⟩:=g.tupI;have d:b=Rf "tuple" a.s:=by cases a<;>cases j<;>decide
   exact UG U s O H _ f Q I l ⟨p,a.s,ys,rfl,m,dW.tup e,k H _ _ q (.refl _) (NR.fz (d ▸ .bl _))⟩
  |lst W =>
   obtain⟨p,ys,rfl,e,r⟩:=g.lstI;have d:b=Rf "list" a.s:=by cases a<;>cases j<;>decide
   exact Ad U s O H _ f Q I l ⟨_,a.s,"list",rfl,m,by show(match H p with|some (.lst _)=>some "list" |some (.tup _)=>some "tuple" |some (.dK _)=>some "dict" |_=>none)=_;rw[(cW e).2],k H _ _ q (.refl _) (NR.fz (d ▸ .bl _))⟩
  |non =>
   cases g;have d:b=Rf "NoneType" a.s:=by cases a<;>cases j<;>decide
   exact Ad U s O H _ f Q I l ⟨_,a.s,"NoneType",rfl,m,rfl,k H _ _ q (.refl _) (NR.fz (d ▸ .bl _))⟩
  |bl c =>
   cases g;have d:b=Rf "bool" a.s:=by cases a<;>cases j<;>decide
   exact Ad U s O H _ f Q I l ⟨_,a.s,"bool",rfl,m,rfl,k H _ _ q (.refl _) (NR.fz (d ▸ .bl _))⟩
  |int i =>
   cases g;have d:b=Rf "int" a.s:=by cases a<;>cases j<;>decide
   exact Ad U s O H _ f Q I l ⟨_,a.s,"int",rfl,m,rfl,k H _ _ q (.refl _) (NR.fz (d ▸ .bl _))⟩
  |str c =>
   cases g;have d:b=Rf "str" a.s:=by cases a<;>cases j<;>decide
   exact Ad U s O H _ f Q I l ⟨_,a.s,"str",rfl,m,rfl,k H _ _ q (.refl _) (NR.fz (d ▸ .bl _))⟩
  |_=>cases a<;>cases j
def LV(c:Knd)(a:RE):RE:=λo q=>a o λx=>oT (si c (frz x)) λb=>q (.fz (.bl b))
def wL(c:Knd){y:Str}(A:QE X a ra)(u:X.mg "isinstance"=none)(m:X.mg y=none)(l:bootBuiltins y=some (.type c.s))(d:Gl X y:=by rfl)(w:Gl X "isinstance":=by rfl)(r:y≠"__name__":=by decide)(j:qV y:=by decide)
 (f:starEach (a::[.Name y p2]) X.env=(false,eval a X.env)::starEach [.Name y p2] X.env:=by rfl):QE X (.Call (.Name "isinstance" p) [a,.Name y p2] [] N) (LV c ra) :=
 (Ux (Sl c) w u boot_isinstance (f9 A (f9 (TD (v:=.ty c.s) d m l rfl r j) zW) f) wf wf f).imp λO H Q ⟨own,o,R,h,t,k⟩=>tQ.mk h t λZ v x q e i =>
  ⟨Ow own,[frz x,.val (.ty c.s)],R,λb z=>((h.same e).sole z).ne,.cons i (.cons (.val _) .nil),⟨rfl,q⟩,λY v z g E n=>k Y v z g (e.trans E) (n.back e)⟩
end
structure DT where
 nx:xy->Prop
 rt:OT->Prop
 bk:xy->Prop:=λ_=>False
 ct:xy->Prop:=λ_=>False
 xc:Addr->Φ->xj->Prop:=λ_ _ _=>False
abbrev RS:=DT->xy->Prop
def zx(X:Cx):XK:=λC d Y=>(∀U O H s a b B,Inv X U O H s->Fly X.prog X.w X.stack H s a C Y b B d->X.xe (.ref a) b) /\
 ∀U O H s a c,C=.ref c->Inv X U O H s->H a=some (XN a c d)->X.s₀.zs<=a->out H a=Y->X.xe (.ref a) s
structure Lnk(K:Frag)(Z:XK)(F:Hp)(E:DT)(D:Ends):Prop where
 nx:∀own H O o,E.nx o->z0 F (hd (Ow own) H)->SR K own H O o->D.nx O H
 rt:∀S H v x B,E.rt x->z0 F (hd S H)->Slo K (hd S H) H (some v) B x->(∀a∈B,S a)->D.rt v H
 bk:∀own H O o,E.bk o->z0 F (hd (Ow own) H)->SR K own H O o->D.bk O H
 ct:∀own H O o,E.ct o->z0 F (hd (Ow own) H)->SR K own H O o->D.ct O H
 xc:∀H C d ks vs W,E.xc C ks W->z0 F H->H d=some (.xd (ks.zip vs))->bV K H vs W->Z (.ref C) (some d) H
def Lnk.step{Z:XK}{F a:Hp}{E:DT}{D:Ends}(h:Lnk K Z F E D)(S:z0 F a):Lnk K Z a E D :=
 ⟨λown H O o e s=>h.nx own H O o e (S.trans s),λT H v x B e s=>h.rt T H v x B e (S.trans s),λown H O o e s=>h.bk own H O o e (S.trans s),λown H O o e s=>h.ct own H O o e (S.trans s),λH C d c b W e s=>h.xc H C d c b W e (S.trans s)⟩
def gm(X:Cx)(r:RS):TS:=λD O H=>∃own o E,SR X.K own H O o/\r E o/\Lnk X.K (zx X) (hd (Ow own) H) E D
def QS(X:Cx)(st:Stmt)(r:RS):Prop:=PS X st (gm X r)
def fb(X:Cx)(st:xS)(r:RS):Prop:=PSs X st (gm X r)
def PS.imp{t a:TS}(h:PS X st t)(i:∀D O H,a D O H->t D O H):PS X st a:=λU s O H D I q=>h U s O H D I (i D O H q)
def PSs.imp{st:xS}{t a:TS}(h:PSs X st t)(i:∀D O H,a D O H->t D O H):PSs X st a:=λU s O H D I q=>h U s O H D I (i D O H q)
def L3:RS:=λE o=>E.nx o
def oO(a b:RS):RS:=λE o=>a { E with nx:=b E } o
def CF(i:Nat)(a:RE):RS:=λE o=>a o λx=>E.nx (o.set i (.fz (frz x)))
def oz(i:Nat)(a:RE):RS:=λE o=>a o λx=>E.nx (o.set i x)
def Nd(a:RE):RS:=λE o=>a o λ_=>E.nx o
def G'(a:RE):RS:=λE o=>a o E.rt
def Dn(i:Nat):RS:=λE o=>match slot o i with|.und=>False|x=>E.rt x
def vB(c:RT)(a b:RS):RS:=λE o=>c o λk=>sw k (a E o) (b E o)
def NU:RS:=λ_ _=>False
def An(i:Nat)(a:RS):RS:=λE o=>match slot o i with|.und=>False|x=>a E (o.set i (.fz (frz x)))
section
variable{K:Frag}{own:Nat->Ψ}{H Y:Hp}{O:L2.St}{o:xy}
def SR.putA(h:SR K own H O o)(E:z0 H Y){x:OT}(n:NR K (Ow own) H Y v x)(i:Nat):∃b,SR K b Y (O.set i (some v)) (o.set i x)/\z0 (hd (Ow own) H) (hd (Ow b) Y):=by
 by_cases a:i<o.length
 .exact h.put E n a
 .rw[l4 (Nat.not_lt.mp a),l4 (h.len ▸ Nat.not_lt.mp a)];exact⟨own,h.same E,bU E⟩
def NR.frz{S:Addr->Prop}{v:V}{x:OT}(n:NR K S H Y v x)(a:∀b,S b->H b≠none):NR K S H Y v (.fz (L2.frz x)):=NR.fz (n.rep a)
def Slo.val{F:Hp}{v:xD}{A:Ψ}{x:OT}(h:Slo K F H v A x)(n:x≠.und):∃u,v=some u:=by
 cases x with
 |und=>exact absurd rfl n
 |fz t=>exact⟨_,h.2.choose_spec.1⟩
 |l1 W=>obtain⟨a,J,e,_⟩:=h;exact⟨_,e⟩
 |l2 W=>obtain⟨a,J,e,_⟩:=h;exact⟨_,e⟩
 |d1 c W=>obtain⟨a,J,e,_⟩:=h;exact⟨_,e⟩
 |ob a d C c W=>obtain⟨J,e,_⟩:=h;exact⟨_,e⟩
 |la a W=>obtain⟨J,e,_⟩:=h;exact⟨_,e⟩
 |pr W g=>obtain⟨p,a,b,J,ys,e,_⟩:=h;exact⟨_,e⟩
 |gh f t=>obtain⟨_,_,u,e,_⟩:=h;exact⟨_,e⟩
def SR.val(h:SR K own H O o){i:Nat}{x:OT}(e:slot o i=x)(n:x≠.und):∃u,O[i]?=some (some u)/\Slo K (hd (Ow own) H) H (some u) (own i) x:=by
 have s:=h.sl i x (iJ e n);obtain⟨u,a⟩:=s.val n;rw[a]at s;refine⟨u,?_,s⟩;cases z:O[i]? with
 |none=>rw[z]at a;cases a
 |some w=>rw[z]at a;exact ZH some a
end
section
variable{X:Cx}{st:Stmt}{sts:xS}{a b:RS}{e:Expr}{re:RE}{N:Pos}
def bQ:fb X [] L3:=_H.imp λD O H b=>by obtain⟨own,o,E,h,a,L⟩:=b;exact L.nx own H O o a (.refl _) h
def sy{D:Ends}(h:gm X (oO a b) D O H):h5 (gm X a) (gm X b) D O H:=by
 obtain⟨own,o,E,h,e,L⟩:=h;exact⟨own,o,_,h,e,λg Y c d q S f=>⟨g,d,E,f,q,L.step S⟩,L.rt,L.bk,L.ct,L.xc⟩
def bF(d:QS X st a)(c:fb X sts b):fb X (st::sts) (oO a b):=(lY d c).imp λ_ _ _=>sy
def bH(h:QS X st a):fb X [st] a:=ZD h
def bO(i:Nat){x:Str}(j:QE X e re)(k:X.N.Nodup:=by assumption)(a:f0 X.env.scope x:=by first|exact .inl rfl|exact .inr rfl)(f:X.N[i]?=some x:=by rfl)(c:swapsWith e (some (.Name x bo)) N.line X.env=pure false:=by rfl)(g:zw X x:=by first|exact .inl rfl|exact .inr rfl|assumption) :
  QS X (.Assign [.Name x bo] e N) (CF i re):=(YC k f a j c g).imp λD O H ⟨own,o,E,h,d,L⟩=>⟨own,o,_,h,d,λY v y q S n=>by
 obtain⟨m,l,p⟩:=h.putA S (n.frz λb z=>(h.sole z).ne) i;exact L.nx m Y _ _ q p l⟩
def lA(i:Nat){x:Str}(g:QE X e re)(j:X.N.Nodup:=by assumption)(a:f0 X.env.scope x:=by first|exact .inl rfl|exact .inr rfl)(d:X.N[i]?=some x:=by rfl)(b:swapsWith e (some (.Name x bo)) N.line X.env=pure false:=by rfl)(f:zw X x:=by first|exact .inl rfl|exact .inr rfl|assumption) :
  QS X (.Assign [.Name x bo] e N) (oz i re):=(YC j d a g b f).imp λD O H ⟨own,o,E,h,c,L⟩=>⟨own,o,_,h,c,λY v y q S n=>by
 obtain⟨l,k,m⟩:=h.putA S n i;exact L.nx l Y _ _ q m k⟩
def jx(c:QE X e re)(a:swapsWith e none N.line X.env=pure false:=by rfl):QS X (.Expr e N) (Nd re):=(vL c a).imp λD O H d=>by obtain⟨own,o,E,h,b,L⟩:=d;exact⟨own,o,_,h,b,λY v y q S n=>L.nx own Y O o q (bU S) (h.same S)⟩
def bN(f:QE X e re):QS X (.Return (some e) N) (G' re):=(Tz f).imp λD O H ⟨own,o,E,h,d,L⟩=>⟨own,o,_,h,d,λY v y q S n=>by
 obtain⟨B,c,s⟩:=n;exact L.rt _ Y v y B q (jG (λb z=>z.imp id (c b)) S) s λa g=>.inr g⟩
def mJ(i:Nat){x:Str}(g:n_X X i x:=by exact⟨rfl,rfl,wf,wf⟩):QS X (.Return (some (.Name x p)) N) (Dn i):=(Tz (pv i g)).imp λD O H f=>by
 obtain⟨own,o,E,h,b,L⟩:=f;have b:E.rt (slot o i)/\slot o i≠.und:=by
  unfold Dn at b;cases e:slot o i<;>rw[e]at b<;>first|exact b.elim|exact⟨b,λz=>by cases z⟩
 obtain⟨u,e,s⟩:=h.val rfl b.2;exact⟨u,e,L.rt (Ow own) H u _ _ b.1 (.refl _) s λa d=>⟨i,d⟩⟩
def cG{e W:xS}{f:RT}(i:QT X c f)(k:fb X e a)(j:fb X W b):QS X (.If c e W N) (vB f a b):=(MW i k j).imp λD O H ⟨own,o,E,h,g,L⟩=>tQT.mk h g λZ c q d =>
 LK q (λq=>⟨own,o,E,h.same d,q,L.step (bU d)⟩) λq=>⟨own,o,E,h.same d,q,L.step (bU d)⟩
def eZ:QS X st NU:=acO.imp λD O H b=>by obtain⟨own,o,E,h,a,L⟩:=b;exact a
def Tc(i:Nat)(c:QS X st a):QS X st (An i a):=PS.imp c λD O H d=>by
 obtain⟨own,o,E,h,b,L⟩:=d;have b:a E (o.set i (.fz (frz (slot o i))))/\slot o i≠.und:=by
  unfold An at b;cases e:slot o i<;>rw[e]at b<;>first|exact b.elim|exact⟨b,λz=>by cases z⟩
 obtain⟨u,g,s⟩:=h.val rfl b.2;obtain⟨j,f,S⟩:=h.frz (iJ rfl b.2) g;exact⟨j,_,E,f,b.1,L.step S⟩
def Im(h:S D):hd S (upd H D u)=hd S H:=funext λb=>by
 by_cases z:S b
 .rw[sU z,sU z]
 .rw[cX z,cX z,cA λ(e:b=D)=>z (e.symm ▸ h)]
def G2:OT->Option (List T×(xj->OT))
 |.l1 W=>some (W,.l1)
 |.la a W=>some (W,.la a)
 |_=>none
def gS(x:OT)(k:xj->(xj->OT)->Prop):Prop:=match G2 x with|some (W,c)=>k W c|none=>False
def Ib{x:OT}{k:xj->(xj->OT)->Prop}(h:gS x k):∃W c,k W c/\((x=.l1 W/\c=.l1)\/∃a,x=.la a W/\c=.la a):=by
 cases x with
 |l1 W=>exact⟨W,_,h,.inl ⟨rfl,rfl⟩⟩
 |la a W=>exact⟨W,_,h,.inr ⟨a,rfl,rfl⟩⟩
 |_=>exact h.elim
def Lu(i:Nat)(a:RE):RS:=λE o=>gS (slot o i) λW c=>a o λy=>W.length<sizeLine/\E.nx (o.set i (c (W++[frz y])))
def SR.l1{K:Frag}{own:Nat->Ψ}{H:Hp}{O:L2.St}{o:xy}(h:SR K own H O o){i:Nat}{W:xj}{c:xj->OT}(e:(slot o i=.l1 W/\c=.l1)\/∃a,slot o i=.la a W/\c=.la a):∃l J,O[i]?=some (some (.ref l))/\own i=[l]/\H l=some (.lst J)/\bV K (hd (Ow own) H) J W/\∀(Y:Hp)(ys:Ζ)d,Y l=some (.lst ys)->bV K (hd (Ow own) Y) ys d->Slo K (hd (Ow own) Y) Y (some (.ref l)) [l] (c d):=by
 rcases e with⟨e,rfl⟩|⟨a,e,rfl⟩
 .obtain⟨u,k,l,J,j,g,f,r⟩:=h.val e (by intro z;cases z);cases j;exact⟨l,J,k,g,f,r,λY ys d a b=>⟨l,ys,rfl,rfl,a,b⟩⟩
 .obtain⟨u,k,J,j,g,f,r⟩:=h.val e (by intro z;cases z);cases j;exact⟨a,J,k,g,f,r,λY ys d a b=>⟨ys,rfl,rfl,a,b⟩⟩
def Mv{o:xy}{i:Nat}{c:xj->OT}(e:(slot o i=.l1 W/\c=.l1)\/∃a,slot o i=.la a W/\c=.la a):∃x,o[i]?=some x:=by
 rcases e with⟨e,_⟩|⟨a,e,_⟩
 .exact⟨_,iJ e (by intro z;cases z)⟩
 .exact⟨_,iJ e (by intro z;cases z)⟩
def SR.chg1{o:xy}(h:SR K own H O o){i:Nat}{a:xj}{c:xj->OT}(e:∃x,o[i]?=some x){l:Addr}(d:O[i]?=some (some (.ref l)))(f:own i=[l])(sl:∀(Y:Hp)(ys:Ζ)a,Y l=some (.lst ys)->bV K (hd (Ow own) Y) ys a->Slo K (hd (Ow own) Y) Y (some (.ref l)) [l] (c a))(r:bV K (hd (Ow own) H) ys a):SR K own (upd H l (.lst ys)) O (o.set i (c a))/\z0 (hd (Ow own) H) (hd (Ow own) (upd H l (.lst ys))):=by
 obtain⟨x,e⟩:=e;refine h.chg e (λb u g e=>(cA λz=>g (by rw[f,z];simp)).trans e) ?_;rw[d,f];exact sl _ ys a cF (by rw[Im ⟨i,by rw[f];simp⟩];exact r)
def uG(i:Nat){x:Str}{d:Pos}(z:QE X e re)(C:n_X X i x:=by exact⟨rfl,rfl,wf,wf⟩)
 (A:attributeBase (.Name x p) "append" X.env (eval (.Name x p) X.env)=eval (.Name x p) X.env:=by rfl)
 (w:zk X af e:=by rfl)
 (u:ze d af:=by rfl)(j:qS X e []:=by rfl)(t:qE X af []:=by rfl)
 (s:swapsWith (.Call (.Attribute (.Name x p) "append" d) [e] [] af) none N.line X.env=pure false:=by rfl) :
  QS X (.Expr (.Call (.Attribute (.Name x p) "append" d) [e] [] af) N) (Lu i re):=(vL (EV (pv i C) (f9 z zW j) A w u j t) s).imp λD O H B=>by
 obtain⟨own,o,E,h,b,L⟩:=B;obtain⟨W,c,b,es⟩:=Ib b;obtain⟨l,J,g,G,f,r,k⟩:=h.l1 es;refine⟨_,g,l,J,rfl,f,tQ.mk h b λZ v y q a m=>⟨v,J,rfl,a _ _ f,by rw[r.len];exact q.1,?_⟩⟩;obtain⟨F,S⟩:=(h.same a).chg1 (Mv es) g G k ((r.same (bU a)).app (.cons m .nil));exact L.nx own _ O _ q.2 ((bU a).trans S) F
def Ic(i:Nat)(a b:RE):RS:=λE o=>gS (slot o i) λW c=>a o λy=>b o λk=>(match frz k with|.int j=>∃n,c6 W.length j=some n/\E.nx (o.set i (c (W.set n (frz y))))|_=>False)
def Hr(i:Nat){x:Str}{k:Expr}{m:RE}(I:QE X e re)(G:QE X k m)(P:n_X X i x:=by exact⟨rfl,rfl,wf,wf⟩)
 (K:∀v,assign (.Subscript (.Name x p) k az) X.env v=(do
   let a <- holding [v] (eval (.Name x p) X.env)
   let g <- holding [v,a] (eval k X.env)
   standAt az
   holding [v,a,g] (setItem a g v)
   release [v,a,g] []):=by intro _;rfl)
 (F:swapsWithSole [.Subscript (.Name x p) k az] e N.line X.env=pure false:=by rfl)(hw:swappedStores [.Subscript (.Name x p) k az] e X.env=pure none:=by rfl)
 (Q:(assignEach [.Subscript (.Name x p) k az] X.env).map (·.2)=[assign (.Subscript (.Name x p) k az) X.env]:=by rfl):QS X (.Assign [.Subscript (.Name x p) k az] e N) (Ic i re m):=(X5 I (EU (pv i P) G set_list K) F hw Q).imp λD O H M=>by
 obtain⟨own,o,E,h,j,L⟩:=M;obtain⟨W,c,j,es⟩:=Ib j;obtain⟨l,J,s,V,U,r,B⟩:=h.l1 es;refine tQ.mk h j λZ v y q A f=>⟨_,s,tQ.mk (h.same A) q λH2 w z q u d=>?_⟩;have f:=f.same (bU u)
 revert d q
 generalize frz z=t;intro q d;cases t<;>try exact q.elim
 cases d;obtain⟨n,T,q⟩:=q;have b:=A.trans u;refine⟨l,J,_,n,rfl,rfl,b _ _ U,by rw[r.len];exact T,?_⟩;obtain⟨R,S⟩:=(h.same b).chg1 (Mv es) s V B (bV.set f n (r.same (bU b)));exact L.nx own _ O _ q ((bU b).trans S) R
def LH(i:Nat)(b:RE):RE:=λo q=>gS (slot o i) λW _=>b o λy=>(match frz y with|.int j=>∃t,ca W j=some t/\q (.fz t)|_=>False)
def uK(i:Nat){x:Str}{b:Expr}(n:QE X b rb)(u:n_X X i x:=by exact⟨rfl,rfl,wf,wf⟩)(m:wI b:=by exact λ_ _=>rfl):QE X (.Subscript (.Name x p) b N) (LH i rb):=(Qj B_ (pv i u) n m).imp λO H Q s=>by
 obtain⟨own,o,R,h,e,k⟩:=s;obtain⟨W,c,e,es⟩:=Ib e;obtain⟨a,J,z,E,w,r,D⟩:=h.l1 es;refine⟨_,z,tQ.mk h e λZ v y q f d=>?_⟩
 revert d q
 generalize frz y=t;intro q d;cases t<;>try exact q.elim
 cases d;obtain⟨t,j,q⟩:=q;obtain⟨v,A,g⟩:=r.ix j;exact⟨a,J,_,v,rfl,rfl,.of (f _ _ w),A,k Z _ _ q f (NR.fz (g.same (bU f)))⟩
def DE(i:Nat)(f:Int->Int->Int)(a:RE):RS:=λE o=>match slot o i with|.fz (.int k)=>a o λy=>(match frz y with|.int j=>E.nx (o.set i (.fz (.int (f k j))))|_=>False)|_=>False
def P7(i:Nat){x:Str}{op:Operator}{f:Int->Int->Int}(g:qi X op (sj f))(l:QE X e re)(n:X.N.Nodup:=by assumption)(d:f0 X.env.scope x:=by first|exact .inl rfl|exact .inr rfl)(j:X.N[i]?=some x:=by rfl)(k:zw X x:=by first|exact .inl rfl|exact .inr rfl|assumption):QS X (.AugAssign (.Name x bo) op e N) (DE i f re):=(N4 n j d l g k).imp λD O H m=>by
 obtain⟨own,o,E,h,a,L⟩:=m;unfold DE at a;cases es:slot o i with
 |fz t =>
  rw[es]at a;cases t<;>try exact a.elim
  obtain⟨u,s,r⟩:=h.get (iJ es (by intro z;cases z));cases r;refine⟨_,s,tQ.mk h a λZ v y q c b=>?_⟩
  revert b q
  generalize frz y=t;intro q b;cases t<;>try exact q.elim
  cases b;refine⟨_,_,rfl,rfl,?_⟩;obtain⟨w,p,S⟩:=(h.same c).putA (.refl _) (NR.fz (.int _)) i;exact L.nx w _ _ _ q ((bU c).trans S) p
 |_=>rw[es]at a;exact a.elim
def HS(n:Nat)(own b:Nat->Ψ)(O a:L2.St):Prop:=(∀j,b j=own j\/(j<n/\b j=[]))/\a.length=O.length/\∀j,n<=j->a[j]?=O[j]?
def HS.refl : HS n own own O O:=⟨λ_=>.inl rfl,rfl,λ_ _=>rfl⟩
def HS.trans{n:Nat}{own own1 g:Nat->Ψ}{O d c:L2.St}(a:HS n own own1 O d)(b:HS n own1 g d c):HS n own g O c :=
 ⟨λj=>(b.1 j).elim (λe=>(a.1 j).imp (λz=>e.trans z) λz=>⟨z.1,e.trans z.2⟩) .inr,b.2.1.trans a.2.1,λj f=>(b.2.2 j f).trans (a.2.2 j f)⟩
def HS.same{d:Nat->Ψ}{c:L2.St}(a:HS n own d O c) : z0 (hd (Ow own) H) (hd (Ow d) H):=jG (λb f=>by obtain⟨j,z⟩:=f;exact .inl ⟨j,(a.1 j).elim (λe=>e ▸ z) λe=>by rw[e.2]at z;cases z⟩) λ_ _ z=>z
abbrev zh:Type:=T->xy->(xy->Prop)->Prop
def eI(K:Frag)(n:Nat)(g:zh):TG:=λv O H Q=>∃own o t R,SR K own H O o/\Rep K (hd (Ow own) H) v t/\g t o R/\∀c a b,R b->HS n own c O a->SR K c H a b->Q a H
def QG(X:Cx)(n:Nat)(tg:Expr)(g:zh):Prop:=PG X tg (eI X.K n g)
abbrev zt:Type:=xj->xy->(xy->Prop)->Prop
def ko(X:Cx)(n:Nat)(tg:xw)(g:zt):Prop:=PGs X tg λv O H Q=>∃own o t R,SR X.K own H O o/\bV X.K (hd (Ow own) H) v t/\g t o R/\∀c a b,R b->HS n own c O a->SR X.K c H a b->Q a H
def PGs.imp{tg:xw}{t a:gb}(h:PGs X tg t)(i:∀v O H Q,a v O H Q->t v O H Q):PGs X tg a:=λU s O H v u Q I r q=>h U s O H v u Q I r (i _ _ _ _ q)
def hName(i:Nat):zh:=λt o q=>q (o.set i (.fz t))
def IB:zt:=λW o q=>match W with|[]=>q o|_=>False
def MZ(g:zh)(b:zt):zt:=λW o q=>match W with|t::W=>g t o λa=>b W a q|_=>False
def LI(n:Nat)(a:zt):zh:=λt o q=>match t with|.tup W=>W.length=n/\a W o q|_=>False
def SR.setF{o:xy}(h:SR K own H O o)(r:Rep K (hd (Ow own) H) v t){i:Nat}(q:i<n):∃p,SR K p H (O.set i (some v)) (o.set i (.fz t))/\HS n own p O (O.set i (some v)):=by
 have le:z0 (hd (Ow own) H) (hd (Ow (own1 own i [])) H):=jG (λb z=>.inl (z.of1.elim id λy=>(nomatch y))) λ_ _ z=>z;have m:HS n own (own1 own i []) O (O.set i (some v)):=⟨λj=>by
  by_cases z:j=i
  .exact .inr ⟨z ▸ q,by rw[z,k_]⟩
  .exact .inl (gw z),VT,λj g=>UT wp⟩
 by_cases c:i<o.length
 .refine⟨own1 own i [],⟨by rw[VT,VT,h.len],λj y e=>?_,λj g a l=>?_,λj k a f d=>?_⟩,m⟩
  .by_cases z:j=i
   .subst z;rw[Tx c]at e;cases e;rw[k_,Tx (h.len ▸ c)];exact⟨rfl,v,rfl,r.same le⟩
   .rw[UT (Ne.symm z)]at e;rw[gw z,UT (Ne.symm z)];exact(h.sl j y e).same le λ_ _ z=>z
  .rw[VT]at g;rw[gw wp]at l;exact h.out j g a l
  .by_cases z:j=i
   .rw[z,k_]at f;cases f
   by_cases y:k=i
   .rw[y,k_]at d;cases d
   .rw[gw z]at f;rw[gw y]at d;exact h.dis j k a f d
 .refine⟨own,?_,⟨λ_=>.inl rfl,m.2⟩⟩;rwa[l4 (Nat.not_lt.mp c),l4 (h.len ▸ Nat.not_lt.mp c)]
def cB(i:Nat){x:Str}(hN:X.N.Nodup:=by assumption)(hx:f0 X.env.scope x:=by first|exact .inl rfl|exact .inr rfl)(hi:X.N[i]?=some x:=by rfl)(hn:i<n:=by decide)(hf:zw X x:=by first|exact .inl rfl|exact .inr rfl|assumption):QG X n (.Name x N) (hName i):=(mC hN hi hx hf).imp λv O H Q b=>by
 obtain⟨own,o,t,R,h,r,a,k⟩:=b;obtain⟨d,c,S⟩:=h.setF r hn;exact k d _ _ a S c
def dN : ko X n [] IB:=_h.imp λv O H Q b=>by
 obtain⟨own,o,t,R,h,r,a,k⟩:=b;cases r with
 |nil=>exact⟨rfl,k own O o a .refl h⟩
 |cons _ _=>exact a.elim
def bT{e:Expr}{g:zh}{i:zt}(u:QG X n e g)(d:ko X n es i)(p:(assignEach (e::es) X.env).map (·.2)=assign e X.env::(assignEach es X.env).map (·.2):=by rfl):ko X n (e::es) (MZ g i):=(ad5 u d p).imp λv O H Q s=>by
 obtain⟨own,o,t,R,h,r,f,k⟩:=s;cases r with
 |nil=>exact f.elim
 |cons a b=>exact⟨_,_,rfl,own,o,_,_,h,a,f,λy j m q S w=>⟨y,m,_,R,w,b.same S.same,q,λx c l q z d=>k x c l q (S.trans z) d⟩⟩
def fK{m:Nat}{c:zt}(h:ko X m es c)(hc:X.calm:=by rfl)(d:(assignEach es X.env).length=n:=by rfl)(g:zi X es:=by rfl):QG X m (.Tuple es k N) (LI n c):=(P3 hc h d g).imp λv O H Q f=>by
 obtain⟨own,o,t,R,h,r,b,k⟩:=f;cases t<;>try exact b.elim
 obtain⟨a,J,rfl,e,r⟩:=r.tupI;exact⟨a,J,rfl,dW.tup e,r.len.trans b.1,own,o,_,R,h,r,b.2,k⟩
def Ha(a:RE)(g:zh):RS:=λE o=>a o λx=>g (frz x) o E.nx
def Q5{g:zh}(l:QE X e re)(k:QG X n tg g)(i:swapsWithSole [tg] e N.line X.env=pure false:=by rfl)(f:swappedStores [tg] e X.env=pure none:=by rfl)(p:(assignEach [tg] X.env).map (·.2)=[assign tg X.env]:=by rfl):QS X (.Assign [tg] e N) (Ha re g) :=
 (X5 l k i f p).imp λD O H m=>by obtain⟨own,o,E,h,j,L⟩:=m;exact tQ.mk h j λZ v y q b c=>⟨own,o,_,_,h.same b,c,q,λs a d q S r=>L.nx s Z a d q ((bU b).trans S.same) r⟩
end
def start'(n:Nat)(W:xj):xy:=W.map OT.fz++replicate (n-W.length) .und
def SR.start{H:Hp}{d:Ζ}{W:xj}(r:bV K H d W)(N:Φ):SR K (λ_=>[]) H (start N d) (start' N.length W):=by
 have l:Ow (λ_=>[])=λ_=>False:=funext λb=>propext ⟨λh=>by obtain⟨_,z⟩:=h;exact(nomatch z),False.elim⟩;refine⟨by unfold start' L2.start;simp[r.len],λi x e=>?_,λ_ _ _ z=>(nomatch z),λi j a z=>(nomatch z)⟩;rw[l,E7];unfold start' at e;unfold L2.start;by_cases c:i<W.length
 .rw[aF (by simpa using c),aq,aj c]at e;cases e;obtain⟨v,k,g⟩:=r.at_ (aj c);rw[aF (by rwa[ak,r.len]),aq,k];exact⟨rfl,v,rfl,g⟩
 .rw[aD (by simpa using c),ak,X1]at e;by_cases f:i-W.length<N.length-W.length
  .rw[ZY f]at e;cases e;rfl
  .rw[ZZ f]at e;cases e
def Bt : hd (Ow λ_=>[]) H=H:=by rw[show Ow (λ_=>[])=λ_=>False from funext λb=>propext ⟨λa=>by obtain⟨_,z⟩:=a;exact(nomatch z),False.elim⟩,E7]
def D5(q:∀Y v x,R x->z0 H Y->NR K (λ_=>False) H Y v x->Q v Y)(S:Addr->Prop)(Y:Hp)(v:V)(x:OT)(B:Ψ)(d:R x)(E:z0 H (hd S Y))(s:Slo K (hd S Y) Y (some v) B x)(c:∀a∈B,S a):Q v Y :=
 q Y v x d (E.trans dW) ⟨B,λa e=>E.free (sU (c a e)),s.same (jG (λb z=>.inl (z.elim False.elim (c b))) λ_ _ z=>z) λ_ _ z=>z⟩
def Fun.okT{x:Str}{N:Φ}{S:ST}(F:Fun K x qual st f fd)(g:bK N ps (bG st))
 {r}(u:∀{b:Value}{A:Around}{a:xt}{s:Shared}{H:Hp}{E:XK},dX k (A.deeper (envOfC qual (bG st) s.zs f b))->N.Nodup ->fb (MK ab P w K mg base N qual (bG st) f b A a s H E).nox (dZ st) r)(y:∀W R,S W R->r { nx:=λ_=>R (.fz .non),rt:=R } (start' N.length W))(d:∀W R,S W R->W.length=ps.length:=by intro _ _ h;repeat (first|exact(ZH List.length h.1).trans rfl|obtain⟨_,h⟩:=h)):bW P w K mg base ab (k+1) f fd ps (am K S):=by
 refine F.ok g (λl H Q E h=>?_) λb A a s H l Q E m h=>?_
 .obtain⟨W,R,r,e,_⟩:=h;exact r.len.trans (d W R e)
 .obtain⟨W,R,r,e,q⟩:=h;have t:=@u b A a s H E m g.nd;have p:=y;have i:=Bt (H:=H);have j:=D5 q;refine⟨_,t,λ_=>[],_,_,SR.start r N,p W R e,⟨λown Y O o c E h=>?_,λC Y v x B c E s n=>j C Y v x B c (i ▸ E) s n,λ_ _ _ _ z=>z.elim,λ_ _ _ _ z=>z.elim,λ_ _ _ _ _ _ z=>z.elim⟩⟩;exact j (Ow own) Y .non _ [] c (i ▸ E) ⟨rfl,_,rfl,.non⟩ λ_ z=>(nomatch z)
abbrev RI:=xy->(xj->Prop)->Prop
def ie(K:Frag)(a:It)(F:Hp)(J:xj):Prop:=∀(S:Addr->Prop)(H:Hp)(i:Nat),(∀b,S b->H b≠none)->z0 F (hd S H) ->
 (i=J.length->a.stop i H)/\∀t,J[i]?=some t->a.go i H/\∀x Y,a.yld i H x Y->z0 H Y/\Rep K (hd S Y) x t
def mz(K:Frag)(r:RI):TI:=λO H Q=>∃own o R,SR K own H O o/\r o R/\∀Y a J,R J->z0 H Y->ie K a (hd (Ow own) Y) J->Q a Y
def QI(X:Cx)(tg a:Expr)(r:RI):Prop:=PI X tg a (mz X.K r)
def PI.imp{b:Expr}{t a:TI}(h:PI X tg b t)(i:∀O H Q,a O H Q->t O H Q):PI X tg b a:=λU s O H Q I q=>h U s O H Q I (i O H Q q)
def HI(a:RE):RI:=λo q=>a o λx=>match frz x with|.lst W=>q W|_=>False
def LL(a:RE):RI:=λo q=>a o λx=>match frz x with|.tup W=>q W|_=>False
def EK{t:Addr}(n:H t=none)(a:∀b,S b->H b≠none):hd S (upd H t u) t=some u:=by rw[cX λz=>a t z n];exact cF
variable{g:zh}{iter be:Expr}{ri:RI}{rc:RT}{re:RE}{Z:Hp}{aS:xw}{I:Scope}{i0:Nat}{y0:Str}{S:ST}{pl:Sem Bool}{j:Int}{ks:xi}{as:Ψ}{p1:Pos}
section
variable{X:Cx}{tg:Expr}{e a b:Expr}{re ra rb:RE}{p N az:Pos}
def cI(n:QE X e re):QI X tg e (HI re):=(Zl n).imp λO H Q ⟨own,o,R,h,l,k⟩=>tQ.mk h l λZ v x q p c=>by
 revert c q
 generalize frz x=t;intro q c;cases t<;>try exact q.elim
 obtain⟨a,J,rfl,e,r⟩:=c.lstI;refine⟨a,rfl,⟨J,.of (cW e).2⟩,k Z _ _ q p λS u i _ b=>⟨λm=>⟨J,.of (cW (b _ _ e)).2,by rw[r.len];exact WG m.symm⟩,λt j=>?_⟩⟩;obtain⟨y,d,f⟩:=r.at_ j;refine⟨⟨J,y,.of (cW (b _ _ e)).2,d⟩,?_⟩;rintro x s ⟨rfl,g⟩;have:=g J (.of (cW (b _ _ e)).2);rw[d]at this;cases this;exact⟨.refl _,f.same b⟩
def Op(n:QE X e re):QI X tg e (LL re):=(OH n).imp λO H Q ⟨own,o,R,h,l,k⟩=>tQ.mk h l λZ v x q p c=>by
 revert c q
 generalize frz x=t;intro q c;cases t<;>try exact q.elim
 obtain⟨a,J,rfl,e,r⟩:=c.tupI;refine⟨a,rfl,⟨J,dW.tup e⟩,k Z _ _ q p λS u i _ b=>⟨λm=>⟨J,(b.trans dW).tup e,by rw[r.len];exact WG m.symm⟩,λt j=>?_⟩⟩;obtain⟨y,d,f⟩:=r.at_ j;refine⟨⟨J,y,(b.trans dW).tup e,d⟩,?_⟩;rintro x s ⟨rfl,g⟩;have:=g J ((b.trans dW).tup e);rw[d]at this;cases this;exact⟨.refl _,f.same b⟩
def rng(lo:Int)(n:Nat):xj:=(range n).map λk:Nat=>.int (lo+k)
def E9{lo:Int}{F:Hp} : ie K (kA lo n) F (rng lo n):=λS H i _ _=>⟨λb=>by rw[rng,ak,WH]at b;exact WG b.symm,λt a=>by
 unfold rng at a;rw[aq]at a;by_cases b:i<n
 .rw[Up b]at a;cases a;refine⟨b,?_⟩;rintro x Y ⟨rfl,rfl⟩;exact⟨.refl _,.int _⟩
 .rw[aM (by simpa using b)]at a;cases a⟩
def IN(r:RA):RI:=λo q=>r o λW=>match W with|[.int j]=>(-(2^62)<=j/\j<2^62)/\q (rng 0 j.toNat)|_=>False
def J'(r:RA):RI:=λo q=>r o λW=>match W with|[.int i,.int j]=>(-(2^62)<=i/\i<2^62/\-(2^62)<=j/\j<2^62)/\q (rng i (j-i).toNat)|_=>False
def fM(f:X.mg "range"=none)(i:QA X [a] r)(g:Gl X "range":=by rfl)(d:starEach [a] X.env=[(false,eval a X.env)]:=by rfl):QI X tg (.Call (.Name "range" p) [a] [] N) (IN r):=(abk g f i d).imp λO H Q ⟨own,o,R,h,e,k⟩=>⟨own,o,_,h,e,λZ m W q _ l c=>by
 match W,q with
 |[.int j],q =>
  obtain⟨x,rfl,b⟩:=c.one;cases b;exact⟨j,rfl,q.1.1,q.1.2,k Z _ _ q.2 l E9⟩⟩
def Bg(l:X.mg "range"=none)(n:QA X [a,b] r)(m:Gl X "range":=by rfl)(f:starEach [a,b] X.env=[(false,eval a X.env),(false,eval b X.env)]:=by rfl)(s:starEach [b] X.env=[(false,eval b X.env)]:=by rfl):QI X tg (.Call (.Name "range" p) [a,b] [] N) (J' r):=(aaD m l n f s).imp λO H Q ⟨own,o,R,h,g,k⟩=>⟨own,o,_,h,g,λZ u W q _ t e=>by
 match W,q with
 |[.int i,.int j],q =>
  obtain⟨x,y,rfl,d,c⟩:=e.two;cases d;cases c;exact⟨i,j,rfl,q.1,k Z _ _ q.2 t E9⟩⟩
def Df(W:xj):xj:=W.zipIdx.map λp=>.tup [.int (p.2:Nat),p.1]
def I'(r:RA):RI:=λo q=>r o λW=>match W with|[.lst W]=>q (Df W)|_=>False
def Ep{C:xw}{l}(w:X.mg "enumerate"=none)(A:QA X [a] r)(z:Gl X "enumerate":=by rfl)(f:starEach [a] X.env=[(false,eval a X.env)]:=by rfl):QI X (.Tuple C l az) (.Call (.Name "enumerate" p) [a] [] N) (I' r):=(Yf z w A f).imp λO H Q ⟨own,o,R,h,v,k⟩=>⟨own,o,_,h,v,λZ F W q _ D u=>by
 match W,q with
 |[.lst W],q =>
  obtain⟨x,rfl,s⟩:=u.one;obtain⟨a,J,rfl,e,r⟩:=s.lstI;refine⟨a,J,rfl,(cW e).2,k Z _ _ q D λS K i f d=>⟨λc=>⟨J,(cW (d _ _ e)).2,by rw[r.len,c];simp[Df]⟩,λt b=>?_⟩⟩;unfold Df at b;rw[aq]at b;by_cases c:i<W.length
  .rw[aj (by simpa using c),List.getElem_zipIdx]at b;cases b;obtain⟨y,B,m⟩:=r.at_ (aj c);refine⟨⟨J,(cW (d _ _ e)).2,by rwa[r.len]⟩,?_⟩;rintro x I ⟨G,E,t,j,g,n,rfl,rfl⟩;rw[(cW (d _ _ e)).2]at j;cases j;rw[B]at g;cases g;refine⟨z0.upd n,.tup (.of (EK n f)) (.cons ?_ (.cons (m.same (d.trans (bU (z0.upd n)))) .nil))⟩;rw[show((0+i:Nat):Int)=(i:Int)by lia];exact .int _
  .rw[aM (by simpa using c)]at b;cases b⟩
def xX(W a:xj):xj:=(W.zip a).map λp=>.tup [p.1,p.2]
def IE(r:RA):RI:=λo q=>r o λW=>match W with|[.lst W,.lst a]=>q (xX W a)|_=>False
def Ah{U:xw}{B}(I:X.mg "zip"=none)(L:QA X [a,b] r)(K:Gl X "zip":=by rfl)(s:starEach [a,b] X.env=[(false,eval a X.env),(false,eval b X.env)]:=by rfl)(M:starEach [b] X.env=[(false,eval b X.env)]:=by rfl):QI X (.Tuple U B az) (.Call (.Name "zip" p) [a,b] [] N) (IE r):=(Sf K I L s M).imp λO H Q ⟨own,o,R,h,G,k⟩=>⟨own,o,_,h,G,λZ vs W q _ V F=>by
 match W,q with
 |[.lst W,.lst C],q =>
  obtain⟨x,y,rfl,E,l⟩:=F.two;obtain⟨a,J,rfl,e,r⟩:=E.lstI;obtain⟨b,ys,rfl,j,m⟩:=l.lstI;refine⟨a,b,J,ys,rfl,(cW e).2,(cW j).2,k Z _ _ q V λS H2 i s c=>⟨λf=>⟨J,ys,(cW (c _ _ e)).2,(cW (c _ _ j)).2,?_⟩,λt d=>?_⟩⟩
  .rw[r.len,m.len];rw[xX,ak,VZ]at f;lia
  .unfold xX at d;rw[aq]at d;by_cases f:i<W.length/\i<C.length
   .rw[aj (by rw[VZ];omega),getElem_zip]at d;cases d;obtain⟨y,T,l⟩:=r.at_ (aj f.1);obtain⟨z,P,D⟩:=m.at_ (aj f.2);refine⟨⟨J,ys,(cW (c _ _ e)).2,(cW (c _ _ j)).2,by rw[r.len];exact f.1,by rw[m.len];exact f.2⟩,?_⟩;rintro x H3 ⟨fI,kS,x',Y,t,w,u,v,g,n,rfl,rfl⟩;rw[(cW (c _ _ e)).2]at w;cases w;rw[(cW (c _ _ j)).2]at u;cases u;rw[T]at v;cases v;rw[P]at g;cases g;have A:=c.trans (bU (S:=S) (z0.upd (o:=.tup [y,z]) n));exact⟨z0.upd n,.tup (.of (EK n s)) (.cons (l.same A) (.cons (D.same A) .nil))⟩
   .rw[aM (by rw[VZ];omega)]at d;cases d⟩
def Ab(g:zh)(b:RS)(E:DT):xj->xy->Prop
 |[],o=>E.nx o
 |t::W,o=>∃N:xy->Prop,(∀o,N o->Ab g b E W o)/\g t o λa=>b { E with nx:=N,ct:=N,bk:=E.nx } a
def IC(a:RI)(g:zh)(b:RS):RS:=λE o=>a o λJ=>Ab g b E J o
def eV{f:xS}{rb:RS}(r:QI X tg iter ri)(hg:QG X n tg g)(hb:fb X f rb)(hc:X.calm:=by rfl)(hp:PassesOwn (model X.prog X.w) X.A X.env X.xe:=by first|exact PassesOwn.never|exact PassesOwn.leaving)
 (hs:zg X iter:=by intro _;rfl):QS X (.For tg iter f [] N) (IC ri g rb):=(OG hp hc r hg hb hs).imp λD O H ⟨own,o,E,h,hr,L⟩=>⟨own,o,_,h,hr,λZ e J q R wk=>by
 refine⟨λi m k Y=>∃l u,SR X.K l Y k u/\z0 (hd (Ow own) Z) (hd (Ow l) Y)/\Ab g rb E (J.drop i) u/\i<=J.length/\m=J.length-i,⟨_,own,o,h.same R,.refl _,q,aZ _,rfl⟩,?_⟩;rintro i m k Y ⟨l,u,G,M,p,il,rfl⟩;obtain⟨w1,w2⟩:=wk (Ow l) Y i (λb z=>(G.sole z).ne) M;have S0:=(bU R).trans M;by_cases r:i<J.length
 .right;obtain⟨go,W⟩:=w2 _ (aj r);rw[ka r]at p;obtain⟨d,T,p⟩:=p;refine⟨go,λs B=>∃F C,SR X.K F B s C/\z0 (hd (Ow own) Z) (hd (Ow F) B)/\Ab g rb E (J.drop (i+1)) C,λs B ⟨F,C,a,b,c⟩=>⟨J.length-(i+1),by omega,F,C,a,b,c,r,rfl⟩,λx B y=>?_⟩;obtain⟨U,rx⟩:=W x B y;refine⟨l,u,_,_,G.same U,rx,p,λfS V o3 q3 i5 h3=>⟨fS,o3,_,h3,q3,?_⟩⟩;have I:=M.trans ((bU (S:=Ow l) U).trans i5.same);have P:=L.step ((bU R).trans I);exact⟨λv Q j t q S h=>⟨v,t,h,I.trans S,T _ q⟩,P.rt,λv Q j t q S h=>P.nx v Q j t q S h,λv Q j t q S h=>⟨v,t,h,I.trans S,T _ q⟩,P.xc⟩
 .left;refine⟨w1 wp,?_⟩;rw[JS (Nat.not_lt.mp r)]at p;exact L.nx l Y k u p S0 G⟩
def N2(c:RT)(b:RS):RS:=λE o=>∃W:Nat->xy->Prop,(∃m,W m o)/\∀m o,W m o->c o λk=>sw k (∃N:xy->Prop,(∀a,N a->∃d,d<m/\W d a)/\b { E with nx:=N,ct:=N,bk:=E.nx } o) (E.nx o)
def E_{e:xS}{rb:RS}(Q:QT X c rc)(R:fb X e rb)(P:PassesOwn (model X.prog X.w) X.A X.env X.xe:=by first|exact PassesOwn.never|exact PassesOwn.leaving):QS X (.While c e [] N) (N2 rc rb):=(acn P Q R).imp λD O H p=>by
 obtain⟨own,o,E,h,M,L⟩:=p;obtain⟨W,⟨I,G⟩,st⟩:=M;refine⟨λm g Y=>∃s i,SR X.K s Y g i/\z0 (hd (Ow own) H) (hd (Ow s) Y)/\W m i,⟨I,own,o,h,.refl _,G⟩,?_⟩;rintro m g Y ⟨s,i,v,C,F⟩;refine tQT.mk v (st m i F) λZ k q u=>LK q (λp=>?_) λq=>L.nx s Z g i q (C.trans (bU u)) (v.same u);obtain⟨d,T,q⟩:=p;have x:=C.trans (bU u);have y:=L.step x;refine⟨λj B=>∃t n,SR X.K t B j n/\z0 (hd (Ow own) H) (hd (Ow t) B)/\d n,λj B p=>?_,s,i,_,v.same u,q,⟨λr z f l q S h=>⟨r,l,h,x.trans S,q⟩,y.rt,λr z f l q S h=>y.nx r z f l q S h,λr z f l q S h=>⟨r,l,h,x.trans S,q⟩,y.xc⟩⟩;obtain⟨t,n,a,b,c⟩:=p;obtain⟨J,lt,w⟩:=T n c;exact⟨J,lt,t,n,a,b,w⟩
end
def iI(g:zh)(c:RT)(e:RE)(o:xy):xj->(xj->Prop)->Prop
 |[],q=>q []
 |t::W,q=>∃(N:T->Prop)(M:Prop),(∀y,N y->iI g c e o W λd=>q (y::d))/\(M->iI g c e o W q)/\g t o λa=>c a λb=>sw b (e a λy=>N (frz y)) M
def LU:RT:=λ_ q=>q true
def h9(b:RI)(n:Nat)(g:zh)(c:RT)(e:RE):RE:=λo q=>b o λJ=>J.length<=sizeLine/\iI g c e (replicate n .und++o) J λa=>q (.l1 a)
def ownL2(n L:Nat)(own:Nat->Ψ)(A:Ψ):Nat->Ψ:=λi=>if i<n then[]else if i<n+L then own (i-n)else if i=n+L then A else own (i-n-1)
def Ow.ownL2{n L:Nat}{own:Nat->Ψ}{A:Ψ}{b:Addr} : Ow (ownL2 n L own A) b↔Ow own b\/b∈A:=by
 constructor
 .rintro⟨i,z⟩;unfold L2.ownL2 at z;by_cases d:i<n
  .rw[ZY d]at z;cases z
  rw[ZZ d]at z;by_cases c:i<n+L
  .rw[ZY c]at z;exact .inl ⟨_,z⟩
  rw[ZZ c]at z;by_cases a:i=n+L
  .rw[ZY a]at z;exact .inr z
  .rw[ZZ a]at z;exact .inl ⟨_,z⟩
 .rintro(⟨i,z⟩|z)
  .by_cases h:i<L
   .exact⟨n+i,by unfold L2.ownL2;rw[ZZ (JY (X9 _ _)),ZY (Nat.add_lt_add_left h _),show n+i-n=i by exact QU _ _];exact z⟩
   .exact⟨n+i+1,by unfold L2.ownL2;rw[ZZ wp,ZZ wp,ZZ wp,show n+i+1-n-1=i by lia];exact z⟩
  .exact⟨n+L,by unfold L2.ownL2;rw[ZZ (JY (X9 _ _)),ZZ (Wp _),ZY rfl];exact z⟩
def SR.blockL{o:xy}(h:SR K own H O o){A:Ψ}(E:z0 H Y)(r:∀a∈A,H a=none)(w:∀a∈A,∃ys,Y a=some (.lst ys))(c:L2.St):SR K (ownL2 c.length o.length own A) Y (c++O) (replicate c.length .und++o):=by
 have le:z0 (hd (Ow own) H) (hd (Ow (ownL2 c.length o.length own A)) Y):=jG (λb z=>(Ow.ownL2.mp z).imp id (r b)) E;have n:∀j,∀a∈A,a∉own j:=λj a g z=>(h.sole ⟨j,z⟩).ne (r a g);refine⟨by simp[h.len],λi x e=>?_,λi s a g=>?_,λi j a f d=>?_⟩
 .by_cases m:i<c.length
  .rw[aF (by simpa using m),X1,ZY m]at e;cases e;show ownL2 _ _ _ _ i=[];unfold ownL2;rw[ZY m]
  .rw[aD (by simpa using m),aN]at e;have y:i-c.length<o.length:=(ao.mp e).1;rw[aD (Nat.not_lt.mp m)];have:ownL2 c.length o.length own A i=own (i-c.length):=by unfold ownL2;rw[ZZ m,ZY (by omega)]
   rw[this];exact(h.sl _ x e).same le E
 .rw[aA,aN]at s;unfold ownL2 at g;rw[ZZ wp,ZZ (JY s)]at g;by_cases t:i=c.length+o.length
  .rw[ZY t]at g;exact w a g
  .rw[ZZ t]at g;obtain⟨J,e⟩:=h.out _ wp a g;exact⟨J,E _ _ e⟩
 .unfold ownL2 at f d;by_cases v:i<c.length
  .rw[ZY v]at f;cases f
  by_cases u:j<c.length
  .rw[ZY u]at d;cases d
  rw[ZZ v]at f;rw[ZZ u]at d;by_cases q:i<c.length+o.length<;>by_cases p:j<c.length+o.length
  .rw[ZY q]at f;rw[ZY p]at d;have:=h.dis _ _ a f d;omega
  .rw[ZY q]at f;rw[ZZ p]at d;by_cases k:j=c.length+o.length
   .rw[ZY k]at d;exact absurd f (n _ a d)
   .rw[ZZ k]at d;have:=h.dis _ _ a f d;omega
  .rw[ZZ q]at f;rw[ZY p]at d;by_cases l:i=c.length+o.length
   .rw[ZY l]at f;exact absurd d (n _ a f)
   .rw[ZZ l]at f;have:=h.dis _ _ a f d;lia
  .rw[ZZ q]at f;rw[ZZ p]at d;by_cases l:i=c.length+o.length<;>by_cases k:j=c.length+o.length
   .exact Eq.trans l (Eq.symm k)
   .rw[ZY l]at f;rw[ZZ k]at d;exact absurd d (n _ a f)
   .rw[ZZ l]at f;rw[ZY k]at d;exact absurd f (n _ a d)
   .rw[ZZ l]at f;rw[ZZ k]at d;have:=h.dis _ _ a f d;lia
def ownS(n L:Nat)(own:Nat->Ψ)(D:Addr):Nat->Ψ:=ownL2 n L own [D]
def Ow.ownS{n L:Nat}{own:Nat->Ψ}{D b:Addr} : Ow (ownS n L own D) b↔Ow own b\/b=D:=Ow.ownL2.trans (or_congr_right YR)
def SR.block{o:xy}(h:SR K own H O o)(E:z0 H Y)(c:H D=none)(d:Y D=some (.lst ys))(b:L2.St):SR K (ownS b.length o.length own D) Y (b++O) (replicate b.length .und++o):=h.blockL E (λa z=>YR.mp z ▸ c) (λa z=>YR.mp z ▸ ⟨_,d⟩) b
def Wz{e:Nat->Ψ}{b a:L2.St}(f:b.length=n)(g:HS n own e (b++O) a):∃d:L2.St,d.length=n/\a=d++O:=by
 obtain⟨_,l,k⟩:=g;refine⟨a.take n,by rw[aY,l,aA];lia,?_⟩;refine List.ext_getElem? λi=>?_;by_cases c:i<n
 .rw[aF (by rw[aY,l,aA];lia),List.getElem?_take_of_lt c]
 .rw[aD (by rw[aY,l,aA];lia),k i (VS c),aD wp,aY,l,aA]
  congr 1
  lia
def Va{o:xy}{c:It}{J:xj}(h1:SR K own Z O o)(wk:ie K c (hd (Ow own) Z) J)(lx:J.length<=sizeLine)(q:iI g rc re (replicate n .und++o) J λH=>R (.l1 H))(t:Z D=none)(k:∀Y v x,R x->z0 Z Y->NR K (Ow own) Z Y v x->Q v Y) :
  ∃a:Nat->Nat->Ζ->Hp->Prop,(∃m,a 0 m [] (upd Z D (.lst [])))/\∀i m ys d,a i m ys d ->
   (c.stop i d/\Q (.ref D) d)\/(c.go i d/\∀x Y,c.yld i d x Y->∀f:L2.St,f.length=n->gd (eI K n g) x (f++O) Y λp G=>∃F:L2.St,F.length=n/\p=F++O/\gc (tQT K rc) p G λb T =>
    match b with
    |true=>tM (tQ K re) p T λy P=>ys.length<sizeLine/\P D=some (.lst ys)/\∃w,w<m/\a (i+1) w (ys++[y]) (upd P D (.lst (ys++[y])))
    |false=>∃w,w<m/\a (i+1) w ys T):=by
 generalize hO:replicate n OT.und++o=I at q;refine⟨λi m ys d=>∃W,d D=some (.lst ys)/\z0 Z d/\bV K (hd (λb=>Ow own b\/b=D) d) ys W/\ys.length<=i/\i<=J.length/\m=J.length-i/\iI g rc re I (J.drop i) λH=>R (.l1 (W++H)),⟨_,[],cF,z0.upd t,.nil,aG _,aZ _,rfl,q⟩,?_⟩;rintro i m ys d ⟨W,B,s,C,X,ix,rfl,h⟩;have hn:∀b,Ow own b\/b=D->d b≠none:=λb z=>z.elim (λz=>((h1.same s).sole z).ne) λe z=>by rw[e,B]at z;cases z
 have SD:z0 (hd (Ow own) Z) (hd (λb=>Ow own b\/b=D) d):=jG (λb z=>z.imp id λ(e:b=D)=>e ▸ t) s;obtain⟨w1,w2⟩:=wk (λb=>Ow own b\/b=D) d i hn SD;by_cases A:i<J.length
 .right;obtain⟨go,yl⟩:=w2 _ (aj A);rw[ka A]at h;obtain⟨N,M,hN,hM,h⟩:=h;refine⟨go,λx G y f hp=>?_⟩;obtain⟨l,V⟩:=yl x G y;have L:(λb=>Ow own b\/b=D)=Ow (ownS n o.length own D):=funext λb=>propext Ow.ownS.symm;have hb:SR K (ownS n o.length own D) G (f++O) I:=by
   have:=h1.block (s.trans l) t (l _ _ B) f;rw[hp,hO]at this;exact this
  rw[L]at V C;refine⟨_,⟨ownS n o.length own D,I,_,_,hb,V,h,λfS σ3 o3 q3 i5 h3=>?_⟩,λ_ _ z=>z⟩;obtain⟨F,dA,rfl⟩:=Wz hp i5;have e3:fS=ownS n o.length own D:=funext λj=>by
   rcases i5.1 j with e|⟨e1,e2⟩
   .exact e
   .rw[e2];exact(ZY e1).symm
  subst e3;refine⟨F,dA,rfl,_,tQT.mk h3 q3 λT b E r=>?_,λ_ _ z=>z⟩;have E:sw b (re o3 λy=>N (frz y)) M:=E;cases b with
  |false=>exact⟨J.length-(i+1),by lia,W,r _ _ (l _ _ B),s.trans (l.trans r),by rw[L];exact C.same (bU (l.trans r)),by exact aL X (X9 _ _),by exact A,rfl,hM E⟩
  |true =>
   refine⟨_,tQ.mk (h3.same r) E λP v y q5 U r4=>⟨by lia,U _ _ (r _ _ (l _ _ B)),J.length-(i+1),by lia,W++[frz y],cF,λb u e=>?_,?_,by rw[aA,length_singleton];exact succ_le_succ X,by exact A,rfl,?_⟩,λ_ _ z=>z⟩
   .rw[cA λz=>by rw[z,t]at e;cases e];exact U _ _ (r _ _ (l _ _ (s _ _ e)))
   .rw[Im (S:=λb=>Ow own b\/b=D) (.inr rfl),L];exact(C.same (bU (l.trans (r.trans U)))).app (.cons r4 .nil)
   .have:=hN _ q5;simp only[WV,List.singleton_append];exact this
 .left;have:i=J.length:=by lia
  refine⟨w1 this,?_⟩;rw[JS (VS A)]at h;have h:R (.l1 (W++[])):=h;rw[append_nil]at h;exact k d _ _ h s (NR.l1 t B C)
def LQ(h:tQ K (h9 ri n g rc re) O H Q):uP (mz K ri) n (gd (eI K n g)) (gc (tQT K rc)) (tM (tQ K re)) O H Q:=by
 obtain⟨own,o,R,h,f,k⟩:=h;exact⟨own,o,_,h,f,λZ a J q b c D e=>Va (h.same b) c q.1 q.2 e λY v x d E n=>k Y v x d (b.trans E) (n.back b)⟩
def fA(X:Cx)(aS:xw)(r:RT):Prop:=PTs X aS (tQT X.K r)
def cC:fA X [] LU:=λU s O H Q I b=>by obtain⟨own,o,R,h,a,k⟩:=b;exact _l U s O H Q I (k H true a (.refl _))
def Z0(h:QT X c rc):fA X [c] rc:=_G h
def c7(i:Scope)(a f J:Φ)(m:QI X tg iter ri)(n:∀{C b c e d},QG (X.compG f I J C b c e d) J.length tg g)(j:∀{C b c e d},fA (X.compG f I J C b c e d) aS rc)(o:∀{C b c e d},QE (X.compG f I J C b c e d) be re)
 (r:X.env.scope=i:=by rfl)(q:X.N=a:=by rfl)(p:X.calm:=by rfl)(l:I.kind=.function:=by rfl)(h:CK i I a f J:=by decide +kernel)(k:zg X iter:=by intro _;rfl):QE X (.ListComp be [⟨tg,iter,aS,0⟩] I N) (h9 ri J.length g rc re) :=
 (pk (gt:=eI X.K J.length g) (tc:=tQT X.K rc) (te:=tQ X.K re) i a f J m n j o r q p l h k).imp λ_ _ _=>LQ
def ZO(k:Scope)(a j:Φ)(d:Str)(p:QI X tg iter ri)(q:∀{C b c f e},QG (X.compGC j I d C b c f e) 1 tg g)(l:∀{C b c f e},fA (X.compGC j I d C b c f e) aS rc)(r:∀{C b c f e},QE (X.compGC j I d C b c f e) be re)
 (w:X.env.scope=k:=by rfl)(v:X.N=a:=by rfl)(s:X.calm:=by rfl)(o:I.kind=.function:=by rfl)(u:∀n i,cellsFrom n I.names i=(d,n)::i:=by intro _ _;rfl)(t:∀h,pushCells h I.names=h.push { cls:=.type "cell",data:=.cell none }:=by intro _;rfl)(h:(∀y∈I.names,y.2=.cell->y.1=d)/\mx k I a j [d]:=by decide +kernel)(m:zg X iter:=by intro _;rfl):QE X (.ListComp be [⟨tg,iter,aS,0⟩] I N) (h9 ri 1 g rc re) :=
 (D2 (gt:=eI X.K 1 g) (tc:=tQT X.K rc) (te:=tQ X.K re) k a j d p q l r w v s o u t h m).imp λ_ _ _=>LQ
def Zq{f:Φ}{d:Str}{e:Scope}{m:Addr}{i:Shared}{l:Hp}{j:Ψ}{k:Δ}(q:Scope)(a p J:Φ)(u:QI (X.compGC f e d m i l j k) tg iter ri)(v:∀{C b c o n},QG ((X.compGC f e d m i l j k).compG p I J C b c o n) J.length tg g)(r:∀{C b c o n},fA ((X.compGC f e d m i l j k).compG p I J C b c o n) aS rc)(w:∀{C b c o n},QE ((X.compGC f e d m i l j k).compG p I J C b c o n) be re)
 (A:X.env.scope=q:=by rfl)(y : [d]++f=a:=by rfl)(x:X.calm:=by rfl)(t:I.kind=.function:=by rfl)(h:CK (mE q e) I a p J:=by decide +kernel)(s:∀z,foldedSetIterable iter (X.compGC f e d m i l j k).env z=pure z:=by intro _;rfl):QE (X.compGC f e d m i l j k) (.ListComp be [⟨tg,iter,aS,0⟩] I N) (h9 ri J.length g rc re) :=
 PE.imp (Sk (gt:=eI X.K J.length g) (tc:=tQT X.K rc) (te:=tQ X.K re) q a p J u v r w A y x t h s) λ_ _ _=>LQ
def P8{j k:Pos}(i:Scope)(a f J:Φ)(s:QI X tg iter ri)(t:∀{C b c e d},QG (X.compG f I J C b c e d) J.length tg g)(l:∀{C b c e d},fA (X.compG f I J C b c e d) aS rc)(u:∀{C b c e d},QE (X.compG f I J C b c e d) be re)(z:PG X (.Name y0 j) (Cj i0))
 (F:X.env.scope=i:=by rfl)(B:X.N=a:=by rfl)(w:X.calm:=by rfl)(r:I.kind=.function:=by rfl)(h:CK i I a f J:=by decide +kernel)(A:swapsWith (.ListComp be [⟨tg,iter,aS,0⟩] I N) (some (.Name y0 j)) k.line X.env=pure true:=by rfl)(m:zg X iter:=by intro _;rfl) :
  QS X (.Assign [.Name y0 j] (.ListComp be [⟨tg,iter,aS,0⟩] I N) k) (oz i0 (h9 ri J.length g rc re)):=(p9 (gt:=eI X.K J.length g) (tc:=tQT X.K rc) (te:=tQ X.K re) i a f J s t l u z F B w r h A m).imp λD O H ⟨own,o,E,h,p,L⟩=>LQ ⟨own,o,_,h,p,λY v y q S n=>by
 obtain⟨G,x,M⟩:=h.putA S n i0;exact L.nx G Y _ _ q M x⟩
def d_{c J:Φ}{C a b e d}{i:Nat}{x:Str}(k:(J++c).Nodup:=by decide +kernel)(h:(J++c)[i]?=some x:=by rfl)(g:i<n:=by decide)(f:f0 (X.compG c I J C a b e d).env.scope x:=by exact Or.inl rfl)(j:(X.compG c I J C a b e d).fn x\/(X.compG c I J C a b e d).env.scope.names.lookup x=some .local:=by exact Or.inr rfl):QG (X.compG c I J C a b e d) n (.Name x p) (hName i):=cB (i:=i) (hN:=k) (hx:=f) (hi:=h) (hn:=g) (hf:=j)
def Do{d:Φ}{c:Str}{C a b h e}(g:([c]++d).Nodup:=by decide +kernel)(f:f0 (X.compGC d I c C a b h e).env.scope c:=by exact Or.inr rfl):QG (X.compGC d I c C a b h e) 1 (.Name c p) (hName 0)   := cB (i:=0) (hN:=g) (hx:=f) (hi:=rfl) (hn:=wf) (hf:=(.inl (beq_self_eq_true _)))
def abt{c:RT}{e:RE}{o:xy}{q:xj->Prop}(h:g t o λd=>c d λb=>sw b (e d λy=>iI g c e o W λa=>q (frz y::a)) (iI g c e o W q)):iI g c e o (t::W) q:=⟨λy=>iI g c e o W λa=>q (y::a),_,λ_ h=>h,id,h⟩
section
variable{X:Cx}{a b e:Expr}{ra rb re:RE}{rt:RT}{N:Pos}
theorem bV.reps{K:Frag}{F:Hp}{J:Ζ}{W:xj}(h:bV K F J W):∀n:Nat,bV K F (replicate n J).flatten (replicate n W).flatten
 |0=>.nil
 |n+1=>by rw[replicate_succ,replicate_succ,flatten_cons,flatten_cons];exact h.app (bV.reps h n)
def cQ:GO X (binaryOp .Mult) K':=λU s O H x y v u Q I f d h=>by
 obtain⟨S,t,w,R,_,g,o,b,k⟩:=h;cases w with
 |int j=>?_
 |_=>cases t<;>exact b.elim
 cases o;cases t<;>try exact b.elim
 .cases g;exact Tb U s O H _ _ v u Q I f d ⟨_,_,rfl,rfl,b.1,k H _ _ b.2 (.refl _) (NR.fz (.int _))⟩
 .cases g;obtain⟨c,rfl,m,l,q⟩:=b;exact _E U s O H _ _ v u Q I f d ⟨c,j,rfl,rfl,m,l,λz n=>k H _ _ (q z n) (.refl _) (NR.fz (.str _))⟩
 .obtain⟨p,J,rfl,e,r⟩:=g.lstI;obtain⟨⟨m,l,A⟩,q⟩:=b;exact P5 U s O H _ _ v u Q I f d ⟨p,j,J,rfl,rfl,(cW e).2,m,l,by rw[r.len];exact A,λa i=>k _ _ _ (q _ rfl) (z0.upd i) (Dw (r.reps j.toNat) (z0.upd i) i cF)⟩
mutual
def hY:PyData->T
 |.none=>.non
 |.bool b=>.bl b
 |.int i=>.int i
 |.str s=>.str s
 |.list a=>.lst (i' a)
 |.tuple a=>.tup (i' a)
 |.dict _=>.any
def i':xa->xj
 |[]=>[]
 |d::a=>hY d::i' a
end
mutual
theorem Rep.shows{K:Frag}{F:Hp} : ∀{x:V}{t:T},Rep K F x t->∀d,t=hY d->d.canLay0=true->iQ K F x d
 |_,_,.any v,d,e,s=>by cases d<;>cases e;cases s
 |_,_,.non,d,e,_=>by cases d<;>cases e;exact .non
 |_,_,.bl b,d,e,_=>by cases d<;>cases e;exact .bl _
 |_,_,.int i,d,e,_=>by cases d<;>cases e;exact .int _
 |_,_,.str s,d,e,_=>by cases d<;>cases e;exact .str _
 |_,_,.val v,d,e,_=>by cases d<;>cases e
 |_,_,.tup q h,d,e,s=>by
  cases d<;>cases e;exact .tup q (bV.shows h _ rfl s)
 |_,_,.lst q h,d,e,s=>by
  cases d<;>cases e;exact .lst q (bV.shows h _ rfl s)
 |_,_,.scr q h,d,e,_=>by cases d<;>cases e
 |_,_,.dct q l h,d,e,_=>by cases d<;>cases e
 |_,_,.ins q a l h,d,e,_=>by cases d<;>cases e
 |_,_,.exc q a l h,d,e,_=>by cases d<;>cases e
theorem bV.shows{K:Frag}{F:Hp} : ∀{J:Ζ}{W:xj},bV K F J W->∀c,W=i' c->PyData.canLayAll0 c=true->fQ K F J c
 |_,_,.nil,c,e,_=>by cases c<;>cases e;exact .nil
 |_,_,.cons a b,c,e,s=>by
  cases c<;>cases e;obtain⟨f,d⟩:=Bool.and_eq_true_iff.mp s;exact .cons (Rep.shows a _ rfl f) (bV.shows b _ rfl d)
end
def xr:Bool->Bool->Bool
 |false,b=>b
 |true,b=>!b
def k7:T->T->Option Bool
 |.int i,.int j=>some (decide (i=j))
 |.str i,.str j=>some (decide (i=j))
 |.bl i,.bl j=>some (decide (i=j))
 |.non,.non=>some true
 |.non,.int _=>some false
 |.int _,.non=>some false
 |.non,.str _=>some false
 |.str _,.non=>some false
 |.int _,.str _=>some false
 |.str _,.int _=>some false
 |.tup [.int a,.int b],.tup [.int c,.int d]=>some (decide (a=c)&&decide (b=d))
 |_,_=>none
def gEq(a:Bool)(t u:T)(q:OT->Prop):Prop:=match k7 t u with
 |some b=>q (.fz (.bl (xr a b)))
 |none=>∃d e,t=hY d/\u=hY e/\SeqAt.shaped d/\SeqAt.shaped e/\q (.fz (.bl (xr a (PyData.eqv d e))))
def Db(a b c d:Int):PyData.eqv (.tuple [.int a,.int b]) (.tuple [.int c,.int d])=(decide (a=c)&&decide (b=d)):=by
 simp only[PyData.eqv,PyData.eqvAll,Bool.and_true]
 rfl
def sv:T->xD
 |.non=>some .non
 |.bl b=>some (.bl b)
 |.int i=>some (.int i)
 |.str s=>some (.str s)
 |_=>none
def Rep.sca{F:Hp}{x:V}(h:Rep K F x t)(e:sv t=some v):x=v:=by cases h<;>cases e<;>rfl
def EqC(t u:T)(b:Bool):Prop:=(∃v w,sv t=some v/\sv u=some w/\jp v w/\decide (v=w)=b)\/∃i j k l,t=.tup [.int i,.int j]/\u=.tup [.int k,.int l]/\(decide (i=k)&&decide (j=l))=b
def Pd{u:T}{b:Bool}(e:k7 t u=some b):EqC t u b:=by
  cases t with
  |tup t=>
   iterate 2
    obtain _|⟨r,t⟩:=t
    .cases e
    cases r<;>try (cases e;done)
   cases t with|cons=>cases e|nil=>
    cases u<;>try (cases e;done)
    rename_i u;iterate 2
     obtain _|⟨r,u⟩:=u
     .cases e
     cases r<;>try (cases e;done)
    cases u<;>cases e;exact .inr ⟨_,_,_,_,rfl,rfl,rfl⟩
  |_=>first|(cases e;done)|(cases u<;>cases e<;>exact .inl ⟨_,_,rfl,rfl,rfl,by simp⟩)
def PU{F:Hp}{x y:V}{u:T}{b:Bool}(S:z0 F H)(c:Rep K F x t)(a:Rep K F y u)(e:k7 t u=some b):(jp x y=true/\decide (x=y)=b)\/∃d e,iQ K H x d/\iQ K H y e/\SeqAt.shaped d/\SeqAt.shaped e/\PyData.eqv d e=b:=by
 rcases Pd e with⟨_,_,p,q,r⟩|⟨_,_,_,_,rfl,rfl,r⟩
 .cases c.sca p;cases a.sca q;exact .inl r
 exact .inr ⟨.tuple [.int _,.int _],.tuple [.int _,.int _],(c.shows _ rfl rfl).same S,(a.shows _ rfl rfl).same S,rfl,rfl,(Db _ _ _ _).trans r⟩
def DV(f:Bool)(B:OpR X (compareOp op) λx y H Q=>jp x y=true/\Q (.bl (xr f (decide (x=y)))) H)(r:OpR X (compareOp op) (om X.K f)):GO X (compareOp op) (gEq f):=λU s O H x y v u Q I m l h=>by
 obtain⟨S,t,w,R,_,p,o,g,k⟩:=h;have n:∀b:Bool,(if f then !b else b)=xr f b:=λb=>by cases f<;>rfl
 unfold gEq at g;cases es:k7 t w with
 |some b =>
  rw[es]at g;rcases PU dW p o es with⟨a,c⟩|⟨d,e,j,i,A,z,c⟩
  .exact B U s O H x y v u Q I m l ⟨a,by rw[c];exact k H _ _ g (.refl _) (NR.fz (.bl _))⟩
  .exact r U s O H x y v u Q I m l ⟨d,e,j,i,A,z,by rw[n,c];exact k H _ _ g (.refl _) (NR.fz (.bl _))⟩
 |none =>
  rw[es]at g;obtain⟨d,e,D,C,j,i,q⟩:=g;exact r U s O H x y v u Q I m l ⟨d,e,(p.shows d D (Bool.and_eq_true_iff.mp j).1).same dW,(o.shows e C (Bool.and_eq_true_iff.mp i).1).same dW,j,i,by rw[n];exact k H _ _ q (.refl _) (NR.fz (.bl _))⟩
def yA(a:X.A.units+64<cLine):GO X (compareOp .Eq) (gEq false):=DV false KO (OL a)
def qG(a:X.A.units+64<cLine):GO X (compareOp .NotEq) (gEq true):=DV true L5 (O' a)
def flat:OT->Prop
 |.fz (.int _)=>True
 |.fz (.bl _)=>True
 |.fz (.str _)=>True
 |.fz .non=>True
 |_=>False
def IY(i:Nat)(a:RE):RE:=λo q=>match slot o i with|.und=>False|x=>a (o.set i (.fz (frz x))) λy=>flat y/\q y
def MG(i:Nat)(a:RT):RT:=λo q=>match slot o i with|.und=>False|x=>a (o.set i (.fz (frz x))) q
def Zi{i:Nat}{o:xy}{P:OT->Prop}(h:match slot o i with|.und=>False|x=>P x):P (slot o i)/\slot o i≠.und:=by
 cases e:slot o i<;>rw[e]at h<;>first|exact h.elim|exact⟨h,λz=>by cases z⟩
def Nf(i:Nat)(h:QE X e re):QE X e (IY i re):=PE.imp h λO H Q j=>by
 obtain⟨own,o,R,h,a,k⟩:=j;obtain⟨a,c⟩:=Zi (P:=λx=>re (o.set i (.fz (frz x))) λy=>flat y/\R y) a;obtain⟨u,l,s⟩:=h.val rfl c;obtain⟨m,d,S⟩:=h.frz (iJ rfl c) l;refine⟨m,_,_,d,a,λY v x q E n=>k Y v x q.2 E ?_⟩;have f:=q.1;have g:=n.rep λb z=>(d.sole z).ne;cases x with
 |fz t=>cases t<;>first|exact f.elim|(cases g;first|exact NR.fz (.int _)|exact NR.fz (.bl _)|exact NR.fz (.str _)|exact NR.fz .non)
 |_=>exact f.elim
def Xx(i:Nat)(h:QT X e rt):QT X e (MG i rt):=PT.imp h λO H Q c=>by
 obtain⟨own,o,R,h,a,k⟩:=c;obtain⟨a,b⟩:=Zi (P:=λx=>rt (o.set i (.fz (frz x))) R) a;obtain⟨u,f,s⟩:=h.val rfl b;obtain⟨g,d,S⟩:=h.frz (iJ rfl b) f;exact⟨g,_,_,d,a,k⟩
def ic:T->Option bX
 |.int i=>some (.inl i)
 |.str s=>some (.inr s)
 |_=>none
def su{α:Type} : xi->List α->bX->Option α
 |k::ks,t::W,j=>if k=j then some t else su ks W j
 |_,_,_=>none
def R_{F:Hp}{x:V}{k:bX}(h:Rep K F x t)(e:ic t=some k):x=kV k:=by
 cases h<;>cases e<;>rfl
theorem HN{K:Frag}{F:Hp}{k:bX} : ∀{ks:xi}{J:Ζ}{W:xj},bV K F J W->(∀t,su ks W k=some t->∃x,Mi (ks.zip J) k=some x/\Rep K F x t)/\(su ks W k=none->Mi (ks.zip J) k=none)
 |[],_,_,_=>⟨λ_ z=>(nomatch z),λ_=>rfl⟩
 |_::_,_,_,.nil=>⟨λ_ z=>(nomatch z),λ_=>rfl⟩
 |j::ks,_,_,.cons a b=>by
  by_cases h:j=k
  .refine⟨λt z=>?_,λz=>?_⟩
   .unfold su at z;rw[ZY h]at z;cases z;exact⟨_,V6 h,a⟩
   .unfold su at z;rw[ZY h]at z;cases z
  .obtain⟨d,c⟩:=HN (k:=k) (ks:=ks) b;refine⟨λt z=>?_,λz=>?_⟩
   .unfold su at z;rw[ZZ h]at z;obtain⟨x,e,r⟩:=d t z;exact⟨x,(Ni h).trans e,r⟩
   .unfold su at z;rw[ZZ h]at z;exact(Ni h).trans (c z)
def MD:zn
 |.dct ks W,u,q=>∃k t,ic u=some k/\su ks W k=some t/\q (.fz t)
 |_,_,_=>False
def Q6(n:X.A.units+1<cLine)(B:QE X a ra)(u:QE X b rb)(p:o1 b:=by exact λ_ _=>rfl):QE X (.Subscript a b N) (f4 MD ra rb):=(TL n B u p).imp λO H Q ⟨own,o,R,h,s,k⟩=>tQ.mk h s λZ v x q g c=>tQ.mk (h.same g) q λF w y q f m=>by
 have c:=c.same (bU f)
 revert c q
 generalize frz x=t;intro q c;cases t<;>try exact q.elim
 obtain⟨d,J,rfl,e,l,r⟩:=c.dctI;obtain⟨j,t,E,D,q⟩:=q;obtain⟨z,C,i⟩:=(HN r).1 t D;cases R_ m E;exact⟨d,z,rfl,.inl ⟨_,_,dW.rd e,rfl,C.symm⟩,k F _ _ q (g.trans f) (NR.fz i)⟩
def oI(a:Bool):zn
 |u,.dct ks W,q=>∃k,ic u=some k/\q (.fz (.bl (xr a (su ks W k).isSome)))
 |_,_,_=>False
def Ee{neg:Bool}(h:tQ X.K (f4 (oI neg) ra rb) O H Q):(tQ X.K ra) O H λy Z=>(tQ X.K rb) O Z λx b=>∃a o,x=.ref a/\H_ b a y o/\Q (.bl (xr neg o.isSome)) b:=by
 obtain⟨own,o,R,h,m,k⟩:=h;refine tQ.mk h m λZ v x q i f=>tQ.mk (h.same i) q λb w y q g c=>?_;have f:=f.same (bU g)
 revert c q
 generalize frz y=t;intro q c;cases t with
 |dct ks W =>
  obtain⟨d,J,rfl,e,l,r⟩:=c.dctI;obtain⟨j,n,q⟩:=q;cases R_ f n;refine⟨d,_,rfl,.inl ⟨_,_,dW.rd e,rfl,rfl⟩,?_⟩;have:(Mi (ks.zip J) j).isSome=(su ks W j).isSome:=by
   cases z:su ks W j with
   |none=>rw[(HN r).2 z];rfl
   |some t=>obtain⟨x,e,_⟩:=(HN r).1 t z;rw[e];rfl
  rw[this];exact k b _ _ q (i.trans g) (NR.fz (.bl _))
 |_=>cases frz x<;>exact q.elim
def C5{r:RE}{b:TE}(i:∀O H Q,tQ X.K r O H Q->b O H Q){Q:Bool->Hp->Prop}(h:tQT X.K (rB r) O H Q):tB b O H Q:=by
 obtain⟨own,o,R,h,c,k⟩:=h;refine i O H _ (tQ.mk h c λZ v x q d a=>?_)
 revert a q
 generalize frz x=t;intro q a;cases a<;>try exact q.elim
 exact⟨_,rfl,k _ _ q d⟩
def D0(c:X.A.units+1<cLine)(e:QE X a ra)(d:QE X b rb)(f:behindInMarks .In b=false:=by rfl):QT X (.Compare a [.In] [b] N) (rB (f4 (oI false) ra rb)):=(DM (N9 c e d) f).imp λ_ _ _=>C5 λ_ _ _=>Ee (neg:=false)
def aaH(c:X.A.units+1<cLine)(e:QE X a ra)(d:QE X b rb)(f:behindInMarks .NotIn b=false:=by rfl):QT X (.Compare a [.NotIn] [b] N) (rB (f4 (oI true) ra rb)):=(DM (abv c e d) f).imp λ_ _ _=>C5 λ_ _ _=>Ee (neg:=true)
def Mo:RE:=λ_ q=>q (.d1 [] [])
def Ug:QE X (.Dict [] [] N) Mo:=abV.imp λO H Q ⟨own,o,R,h,c,k⟩ p b=>k _ _ _ c (z0.upd b) ⟨[p],λa d=>(YR.mp d) ▸ b,p,[],rfl,rfl,cF,rfl,.nil⟩
def aqj(i:Nat)(a b:RE):RS:=λE o=>match slot o i with|.d1 ks W=>a o λy=>b o λk=>∃j,ic (frz k)=some j/\su ks W j=none/\ks.length<sizeLine/\ks.length=W.length/\E.nx (o.set i (.d1 (ks++[j]) (W++[frz y])))|_=>False
end
def gg{α:Type} : Φ->List α->Str->Option α
 |k::ks,t::W,f=>if k=f then some t else gg ks W f
 |_,_,_=>none
def Lp:Φ->Str->Φ
 |[],f=>[f]
 |k::ks,f=>if k=f then k::ks else k::Lp ks f
def Cw{α:Type} : Φ->List α->Str->α->List α
 |k::ks,t::W,f,v=>if k=f then v::W else t::Cw ks W f v
 |_,W,_,v=>W++[v]
theorem pe{K:Frag}{F:Hp}{f:Str} : ∀{ks:Φ}{J:Ζ}{W:xj},bV K F J W->(∀t,gg ks W f=some t->∃x,(ks.zip J).lookup f=some x/\Rep K F x t)/\(gg ks W f=none->(ks.zip J).lookup f=none)
 |[],_,_,_=>⟨λ_ z=>(nomatch z),λ_=>rfl⟩
 |_::_,_,_,.nil=>⟨λ_ z=>(nomatch z),λ_=>rfl⟩
 |j::ks,_,_,.cons a b=>by
  obtain⟨d,c⟩:=pe (f:=f) (ks:=ks) b;by_cases h:j=f
  .refine⟨λt z=>?_,λz=>?_⟩
   .unfold gg at z;rw[ZY h]at z;cases z;exact⟨_,by rw[zip_cons_cons,lookup_cons,h,beq_self_eq_true],a⟩
   .unfold gg at z;rw[ZY h]at z;cases z
  .have e:∀x(r:xn),((j,x)::r).lookup f=r.lookup f:=λx r=>by rw[lookup_cons,beq_false_of_ne (Ne.symm h)]
   refine⟨λt z=>?_,λz=>?_⟩
   .unfold gg at z;rw[ZZ h]at z;obtain⟨x,g,r⟩:=d t z;exact⟨x,(e _ _).trans g,r⟩
   .unfold gg at z;rw[ZZ h]at z;exact(e _ _).trans (c z)
theorem W6{f:Str}{v:V} : ∀{ks:Φ}{J:Ζ},ks.length=J.length->xY f v (ks.zip J)=(Lp ks f).zip (Cw ks J f v)/\(Lp ks f).length=(Cw ks J f v).length
 |[],[],_=>⟨rfl,rfl⟩
 |k::ks,x::J,l=>by
  obtain⟨b,a⟩:=W6 (f:=f) (v:=v) (ks:=ks) (J:=J) (Nat.succ.inj l);show(if k=f then(k,v)::ks.zip J else(k,x)::xY f v (ks.zip J))=_/\_;unfold Lp Cw;by_cases h:k=f
  .rw[ZY h,ZY h,ZY h];exact⟨rfl,l⟩
  .rw[ZZ h,ZZ h,ZZ h,b];exact⟨rfl,ZH (· + 1) a⟩
 |[],_::_,l=>by cases l
 |_::_,[],l=>by cases l
theorem bV.put{K:Frag}{F:Hp}{f:Str}{v:V}{t:T}(r:Rep K F v t):∀{ks:Φ}{J:Ζ}{W:xj},bV K F J W->bV K F (Cw ks J f v) (Cw ks W f t)
 |[],_,_,h=>h.app (.cons r .nil)
 |_::_,_,_,.nil=>.cons r .nil
 |k::ks,_,_,.cons a b=>by
  unfold Cw;by_cases h:k=f
  .rw[ZY h,ZY h];exact .cons r b
  .rw[ZZ h,ZZ h];exact .cons a (bV.put r b)
abbrev SI:=Addr->Φ->xj->xj->(Φ->xj->Prop)->Prop
def cw(a c b:Addr):Prop:=b=a\/b=c
def dj(K:Frag)(S:SI):Sp:=λg H Q _=>∃a b C ks J W e as R,g=.ref a::e/\H a=some (.ins C b (ks.zip J))/\H b=some (.own a)/\ks.length=J.length/\bV K (hd (cw a b) H) J W/\bV K (hd (cw a b) H) e as/\S C ks W as R /\
 ∀Y d c f,R d f->z0 (hd (cw a b) H) (hd (cw a b) Y)->Y a=some (.ins C b (d.zip c))->Y b=some (.own a)->d.length=c.length->bV K (hd (cw a b) Y) c f->Q .non Y
def startI(n:Nat)(a b C:Addr)(ks:Φ)(W as:xj):xy:=.ob a b C ks W::start' (n-1) as
def CB(a b:Addr):Nat->Ψ
 |0=>[a,b]
 |_+1=>[]
def Z4(a c:Addr):Ow (CB a c)=cw a c:=funext λb=>propext ⟨(λh=>by
  obtain⟨i,z⟩:=h;cases i with
  |zero =>
   rcases YU.mp z with z|z
   .exact .inl z
   .exact .inr (YR.mp z)
  |succ i=>cases z),λz=>⟨0,by show b∈[a,c];rcases z with rfl|rfl<;>simp⟩⟩
def SR.startI{H:Hp}{a d C:Addr}{ks:Φ}{J:Ζ}{W as:xj}{f:Ζ}(o:H a=some (.ins C d (ks.zip J)))(s:H d=some (.own a))(l:ks.length=J.length)(r:bV K (hd (cw a d) H) J W)(g:bV K (hd (cw a d) H) f as)(N:Φ)(t:f.length+1<=N.length) :
  SR K (CB a d) H (L2.start N (.ref a::f)) (L2.startI N.length a d C ks W as):=by
 have p:=Z4 a d;refine⟨?_,λi x e=>?_,λi c b n=>?_,λi j b h q=>?_⟩
 .unfold L2.startI start' L2.start;have:=g.len;simp only[length_cons,aA,ak,aN];lia
 .rw[p];unfold L2.startI at e;cases i with
  |zero =>
   cases e;exact⟨J,rfl,rfl,o,s,l,r⟩
  |succ i =>
   rw[List.getElem?_cons_succ]at e;show Slo K _ _ _ [] x;unfold start' at e;unfold L2.start;rw[map_cons,cons_append,List.getElem?_cons_succ];by_cases c:i<as.length
   .rw[aF (by simpa using c),aq,aj c]at e;cases e;obtain⟨v,h,m⟩:=g.at_ (aj c);rw[aF (by rwa[ak,g.len]),aq,h];exact⟨rfl,v,rfl,m⟩
   .rw[aD (by simpa using c),ak,X1]at e;by_cases k:i-as.length<N.length-1-as.length
    .rw[ZY k]at e;cases e;rfl
    .rw[ZZ k]at e;cases e
 .unfold L2.startI at c;cases i with
  |zero=>cases c
  |succ i=>cases n
 .cases i with
  |zero =>
   cases j with
   |zero=>rfl
   |succ j=>cases q
  |succ i=>cases h
def Fun.okI{x:Str}{N:Φ}{S:SI}(F:Fun K x qual st f fd)(t:bK N ps (bG st))(e:∀C ks W as R,S C ks W as R->as.length+1=ps.length)(hn:ps.length<=N.length)
 (bg:∀(n:Value)(A:Around)(c:xt)(s:Shared)(H:Hp)(E:XK),dX k (A.deeper (envOfC qual (bG st) s.zs f n))->N.Nodup ->
   ∃r,fb (MK ab P w K mg base N qual (bG st) f n A c s H E).nox (dZ st) r/\∀a d C ks W as R,S C ks W as R->r { nx:=λo=>∃m j,slot o 0=.ob a d C m j/\R m j,rt:=λ_=>False } (startI N.length a d C ks W as)):bW P w K mg base ab (k+1) f fd ps (dj K S):=by
 refine F.ok t (λv H Q E h=>?_) λn A c s H v Q E D h=>?_
 .obtain⟨a,d,C,ks,J,W,y,as,R,rfl,_,_,_,_,g,i,_⟩:=h;rw[length_cons,g.len];exact e _ _ _ _ _ i
 .obtain⟨a,d,C,ks,J,W,y,as,R,rfl,G,b8,l,r,g,i,q⟩:=h;obtain⟨rd,L,I⟩:=bg n A c s H E D t.nd;have B:=SR.startI G b8 l r g N (by rwa[g.len,e _ _ _ _ _ i]);have T:=Z4 a d;refine⟨_,L,_,_,_,B,I a d C ks W as R i,⟨λown Y O o p E h=>?_,λ_ _ _ _ _ z=>z.elim,λ_ _ _ _ z=>z.elim,λ_ _ _ _ z=>z.elim,λ_ _ _ _ _ _ z=>z.elim⟩⟩;obtain⟨m,j,es,p⟩:=p;rw[T]at E;obtain⟨u,_,M,e1,e2,Z,X,V,U⟩:=h.val es (by intro z;cases z);have sub:z0 (hd (Ow own) Y) (hd (cw a d) Y):=jG (λb z=>.inl ⟨0,by rw[e2];rcases z with rfl|rfl<;>simp⟩) λ_ _ z=>z;exact q Y m M j p (E.trans sub) Z X V (U.same sub)
section
variable{X:Cx}{e:Expr}{es:xw}{re:RE}{r:RA}{f:Str}{N ai p:Pos}{Fm:Addr->Prop}
def C6(Fm:Addr->Prop)(i:Nat)(f:Str):RE:=λo q=>match slot o i with|.ob _ _ C ks W=>Fm C/\∃t,gg ks W f=some t/\q (.fz t)|_=>False
def _0(i:Nat){x:Str}(c:∀C,Fm C->Cls X.K C/\cD X.K C f)(n:n_X X i x:=by exact⟨rfl,rfl,wf,wf⟩)(j:attributeBase (.Name x p) f X.env (eval (.Name x p) X.env)=eval (.Name x p) X.env:=by rfl):QE X (.Attribute (.Name x p) f N) (C6 Fm i f):=(DO (pv i n) j).imp λO H Q m=>by
 obtain⟨own,o,R,h,b,k⟩:=m;unfold C6 at b;cases es:slot o i with
 |ob a D C ks W =>
  rw[es]at b;obtain⟨u,B,J,A,I,y,G,l,r⟩:=h.val es (by intro z;cases z);cases A;obtain⟨d,t,w,q⟩:=b;obtain⟨v,s,e⟩:=(pe r).1 t w;exact⟨_,B,a,C,D,_,v,rfl,y,(c C d).1,(c C d).2,s,k H _ _ q (.refl _) (NR.fz e)⟩
 |_=>rw[es]at b;exact b.elim
def Dx(Fm:Addr->Prop)(i:Nat)(f:Str)(a:RE):RS:=λE o=>match slot o i with|.ob b c C ks W=>a o λy=>(Fm C/\ks.length<1000)/\E.nx (o.set i (.ob b c C (Lp ks f) (Cw ks W f (frz y))))|_=>False
def tY(i:Nat){x:Str}(c:∀C,Fm C->Cls X.K C/\cD X.K C f)(G:QE X e re)(P:n_X X i x:=by exact⟨rfl,rfl,wf,wf⟩)(F:swapsWith e (some (.Attribute (.Name x p) f az)) N.line X.env=pure false:=by rfl):QS X (.Assign [.Attribute (.Name x p) f az] e N) (Dx Fm i f re):=(PH (pv i P) G F).imp λD O H M=>by
 obtain⟨own,o,E,h,d,L⟩:=M;unfold Dx at d;cases es:slot o i with
 |ob a j C ks W =>
  rw[es]at d;obtain⟨u,s,J,R,k,n,m,l,r⟩:=h.val es (by intro z;cases z);cases R;refine tQ.mk h d λZ v y q g t=>⟨_,s,a,C,j,_,rfl,g _ _ n,(c C q.1.1).1,(c C q.1.1).2,by rw[VZ,<- l,UV];exact q.1.2,?_⟩;obtain⟨w,pl⟩:=W6 (f:=f) (v:=v) l;rw[w];have A:j≠a:=pu m n (by intro z;cases z);obtain⟨Q,S⟩:=(h.same g).chg (iJ es (by intro z;cases z)) (y:=.ob a j C (Lp ks f) (Cw ks W f (frz y))) (Y:=upd Z a (.ins C j ((Lp ks f).zip (Cw ks J f v)))) (λb u I e=>(cA λz=>I (by rw[k,z];simp)).trans e) (by
   rw[s,Im ⟨i,by rw[k];simp⟩];exact⟨_,rfl,k,cF,(cA A).trans (g _ _ m),pl,bV.put t (r.same (bU g))⟩)
  exact L.nx own _ O _ q.2 ((bU g).trans S) Q
 |_=>rw[es]at d;exact d.elim
def HZ(Fm:Addr->Prop)(f:Str)(a:RE):RE:=λo q=>a o λx=>match frz x with|.ins C ks W=>Fm C/\∃t,gg ks W f=some t/\q (.fz t)|_=>False
def tD(c:∀C,Fm C->Cls X.K C/\cD X.K C f)(m:QE X e re)(n:zo X e f:=by rfl):QE X (.Attribute e f N) (HZ Fm f re):=(DO m n).imp λO H Q ⟨own,o,R,h,j,k⟩=>tQ.mk h j λZ v x q w b=>by
 revert b q
 generalize frz x=t;intro q b;cases t<;>try exact q.elim
 obtain⟨a,u,J,rfl,e,d,l,r⟩:=b.insI;obtain⟨g,t,s,q⟩:=q;obtain⟨v,p,i⟩:=(pe r).1 t s;exact⟨a,_,u,_,v,rfl,(cW e).2,(c _ g).1,(c _ g).2,p,k Z _ _ q w (NR.fz i)⟩
abbrev FD(X:Cx)(k:Nat)(fa:Addr)(ps:Φ)(S:ST):Prop:=zC X ab k fa ps (am X.K S)
def OkI.hid{P:Program}{w:World}{K:Frag}{mg:Str->Ω}{base:Heap}{k:Nat}{a:Addr}{ps:Φ}{sp:Sp}(G:OkI P w K mg base ab k a ps sp):OkI P w K mg base ab k a ps (gp sp):=by obtain⟨fd,F,b⟩:=G;exact⟨fd,F.hid,b⟩
def U3{o:xy}{f:Ζ}{E:XK}(l:SR X.K own Z O o)(i:bV X.K (hd (Ow own) Z) f W)(q:S W R)(k:∀Y v x,R x->z0 Z Y->NR X.K (Ow own) Z Y v x->Q v Y):gp (am X.K S) f Z Q E:=by
 refine⟨Ow own,l.hid,W,R,i,q,λG v x h E n d=>?_⟩;have m:z0 Z (cH (Ow own) Z G):=λb u e=>by
  by_cases z:Ow own b
  .rw[wU z];exact e
  .rw[jX z];exact E b u ((cX z).trans e)
 have g:z0 G (cH (Ow own) Z G):=λb u e=>by rw[jX λz=>by rw[d b z]at e;cases e];exact e
 refine k _ v x h m ?_;obtain⟨B,j,s⟩:=n;have out:∀a∈B,¬Ow own a:=λa c z=>(s.sole c).ne (d a z);refine⟨B,λa c=>by have:=j a c;rwa[cX (out a c)]at this,s.same (jG (λb z=>?_) g) g⟩;rcases z with z|z
 .exact .inr (d b z)
 .exact .inl (.inr z)
def CY(C:Addr)(c:Φ)(S:ST)(a:RE)(r:RA):RE:=λo q=>a o λx=>match frz x with|.ins b ks W=>(b=C/\ks=c)/\r o λas=>S (.ins b ks W::as) q|_=>False
theorem Um{f:Str} : ∀{a:Φ}{J:Ζ},f∉a->(a.zip J).lookup f=none
 |[],_,_=>rfl
 |_::_,[],_=>rfl
 |k::a,x::J,h=>by
  rw[zip_cons_cons,lookup_cons,beq_false_of_ne λ(z:f=k)=>h (by rw[z];exact aO ..)];exact Um λz=>h (aJ _ z)
def Bw{o:Expr}{m:RE}{s C:Addr}{KS:Φ}(D:QE X o m)(c:Cls X.K C)(z:Meth X.K C f s)(G:FD X k s ps S)(F:QA X (e::es) r)(j:dX k X.A:=by exact dX.mono (by assumption) wf)(B:f∉KS:=by decide +kernel)
 (L:qS X e es:=by rfl)(M:qE X N es:=by rfl)
 (y:eval (.Call (.Attribute o f ai) (e::es) [] N) X.env=(do
   let p <- eval o X.env
   standAt ai.atName
   let(f,first) <- holding [p] (getMethod p f pl)
   callWith N f first (backTo N (starEach (e::es) X.env)) (backToKw N (keywordEach [] X.env))):=by rfl) :
  QE X (.Call (.Attribute o f ai) (e::es) [] N) (CY C KS S m r):=(_w (pl:=pl) D c z (OkI.hid G) j F L M y).imp λO H Q ⟨own,o,R,h,j,k⟩=>tQ.mk h j λZ v x q i b=>by
 revert b q
 generalize frz x=t;intro q b;cases t<;>try exact q.elim
 obtain⟨a,I,J,rfl,e,d,l,r⟩:=b.insI;obtain⟨⟨rfl,rfl⟩,q⟩:=q;refine⟨a,I,_,rfl,(cW e).2,Um B,tQA.mk (h.same i) q λT P as q _ g w=>?_⟩;exact U3 ((h.same i).same g) (.cons (b.same (bU g)) w) q λY v x u E n=>k Y v x u (i.trans (g.trans E)) (n.back (i.trans g))
def vg{o:Expr}{j:RE}{p C:Addr}{KS:Φ}(z:QE X o j)(c:Cls X.K C)(w:Meth X.K C f p)(G:FD X k p ps S)(g:dX k X.A:=by exact dX.mono (by assumption) wf)(y:f∉KS:=by decide +kernel)
 (u:eval (.Call (.Attribute o f ai) [] [] N) X.env=(do
   let m <- eval o X.env
   standAt ai.atName
   let(f,first) <- holding [m] (getMethod m f pl)
   callWith N f first (backTo N (starEach [] X.env)) (backToKw N (keywordEach [] X.env))):=by rfl) :
  QE X (.Call (.Attribute o f ai) [] [] N) (CY C KS S j og):=(abA (pl:=pl) z c w (OkI.hid G) g u).imp λO H Q ⟨own,o,R,h,g,k⟩=>tQ.mk h g λZ v x q i b=>by
 revert b q
 generalize frz x=t;intro q b;cases t<;>try exact q.elim
 obtain⟨a,B,J,rfl,e,d,l,r⟩:=b.insI;obtain⟨⟨rfl,rfl⟩,q⟩:=q;refine⟨a,B,_,rfl,(cW e).2,Um y,?_⟩;exact U3 (E:=E0) (h.same i) (.cons b .nil) q λY v x s E n=>k Y v x s (i.trans E) (n.back i)
def LX(C:Addr)(S:SI)(r:RA):RE:=λo q=>r o λas=>S C [] [] as λks W=>q (.fz (.ins C ks W))
theorem Gh{x:Str}{B C:Addr}{S:SI}(M:Mk X.K C B)(G:zC X ab k B ps (dj X.K S))(T:X.mg x=some (.ref C))(W:QA X (e::es) r)(i:dX (k+1) X.A:=by exact dX.mono (by assumption) wf)(U:Gl X x:=by rfl)(cr:qV x:=by decide)
 (V:qS X e es:=by rfl)(bj:qE X N es:=by rfl):QE X (.Call (.Name x p) (e::es) [] N) (LX C S r):=(ac0 M (OkI.hid G) i U T W cr V bj).imp λO H Q ⟨own,o,R,h,i,k⟩=>tQA.mk h i λZ I as q _ F P a c y w v=>by
 have j:=h.same F;have f:z0 Z (upd (upd Z c (.own a)) a (.ins C c [])):=(z0.upd w).trans (z0.upd ((cA (Ne.symm v)).trans y));have Y:=j.same f;have t:¬Ow own a:=λz=>(j.sole z).ne y;have s:¬Ow own c:=λz=>(j.sole z).ne w;refine⟨Ow own,Y.hid,a,c,C,[],[],[],I,as,_,rfl,(cX t).trans cF,(cX s).trans ((cA v).trans cF),rfl,.nil,P.same (λb u e=>?_),q,λG eW fI fw L E ea ed l r D=>⟨rfl,?_⟩⟩
 .obtain⟨n,e⟩:=cW e;have g:¬cw a c b:=λz=>by rcases z with rfl|rfl<;>rw[e]at *<;>contradiction
  rw[cX g,cX n];exact f _ _ e
 .have d:z0 G (cH (Ow own) (upd (upd Z c (.own a)) a (.ins C c [])) G):=λb u e=>by rw[jX λz=>by rw[D b z]at e;cases e];exact e
  refine k _ _ _ L (F.trans λb u e=>?_) (NR.fz (.ins (dx:=c) (ks:=eW) (J:=fI) ?_ ?_ l (r.same λb u e=>?_)))
  .by_cases z:Ow own b
   .rw[wU z];exact f _ _ e
   .have g:¬cw a c b:=λz=>by rcases z with rfl|rfl<;>rw[e]at *<;>contradiction
    exact d _ _ (cW (E b u ((cX g).trans ((cX z).trans (f _ _ e))))).2
  .rw[cX t];exact d _ _ ea
  .rw[cX s];exact d _ _ ed
  .have m:=(cW e).2;rw[cX λz=>by rw[D b z]at m;cases m];exact d _ _ m
def Da(i:Nat)(S:SI)(r:RA):RS:=λE o=>match slot o i with|.ob a d C ks W=>r o λas=>S C ks W as λc b=>E.nx (o.set i (.ob a d C c b))|_=>False
def Kd(i:Nat){x y m:Str}{Q B:Addr}{S:SI}(c:Ja X.K B m Q)(G:zC X ab k Q ps (dj X.K S))(hm:X.mg x=some (.ref B))(ha:QA X es r)(t:dX k X.A:=by exact dX.mono (by assumption) wf)(hg:Gl X x:=by rfl)
 (hN:n_X X i y:=by exact⟨rfl,rfl,wf,wf⟩)(cr:qV x:=by decide)
 (T:starEach (.Name y p2::es) X.env=(false,eval (.Name y p2) X.env)::starEach es X.env:=by rfl)(bj:qE X af es:=by rfl)
 (ht:eval (.Call (.Attribute (.Name x p) m ai) (.Name y p2::es) [] af) X.env=(do
   let P <- eval (.Name x p) X.env
   standAt ai.atName
   let(f,first) <- holding [P] (getMethod P m pl)
   callWith af f first (backTo af (starEach (.Name y p2::es) X.env)) (backToKw af (keywordEach [] X.env))):=by rfl)
 (hs:swapsWith (.Call (.Attribute (.Name x p) m ai) (.Name y p2::es) [] af) none N.line X.env=pure false:=by rfl) :
  QS X (.Expr (.Call (.Attribute (.Name x p) m ai) (.Name y p2::es) [] af) N) (Da i S r):=(vL (_R (pl:=pl) c (OkI.hid G) t hg hm (f9 (pv i hN) ha T) cr T bj ht) hs).imp λD O H hP=>by
 obtain⟨own,o,E,h,t,L⟩:=hP;unfold Da at t;cases es:slot o i with
 |ob a g C ks W =>
  rw[es]at t;obtain⟨u,R,J,e2,M,e4,e5,l,r⟩:=h.val es (by intro z;cases z);cases e2;refine⟨_,R,tQA.mk h t λZ vs as q _ F r1=>?_⟩;have s:=h.same F;have sub:∀b,cw a g b->b∈own i:=λb z=>by rw[M];rcases z with rfl|rfl<;>simp
  have v:∀b,b∈own i->cw a g b:=λb z=>by
   rw[M]at z;rcases YU.mp z with z|z
   .exact .inl z
   .exact .inr (YR.mp z)
  have hid:mu Z (λb=>Ow own b/\¬cw a g b):=⟨λb z=>s.sole z.1,λb C d f ⟨⟨j,z⟩,n⟩ e=>⟨⟨j,(s.mate z).1 C d f e⟩,λy=>n (v b ((s.dis j i d ((s.mate z).1 C d f e) (sub d y)) ▸ z))⟩,λb x ⟨⟨j,z⟩,n⟩ e=>⟨⟨j,(s.mate z).2 x e⟩,λy=>n (v b ((s.dis j i x ((s.mate z).2 x e) (sub x y)) ▸ z))⟩⟩;have er:∀Y:Hp,hd (cw a g) (hd (λb=>Ow own b/\¬cw a g b) Y)=hd (Ow own) Y:=λY=>funext λb=>by
   by_cases z:cw a g b
   .rw[sU z,sU ⟨i,sub b z⟩]
   .rw[cX z];by_cases y:Ow own b
    .rw[sU (⟨y,z⟩ : Ow own b/\¬cw a g b),sU y]
    .rw[cX (λw=>y w.1),cX y]
  have na:¬(Ow own a/\¬cw a g a):=λz=>z.2 (.inl rfl);have nd:¬(Ow own g/\¬cw a g g):=λz=>z.2 (.inr rfl);refine⟨_,hid,a,g,C,ks,J,W,vs,as,_,rfl,(cX na).trans (F _ _ e4),(cX nd).trans (F _ _ e5),l,by rw[er];exact r.same (bU F),by rw[er];exact r1,q,λG eW fI fw rx V ea ed l' r' U=>?_⟩;rw[er]at V;have I:∀{b:Addr}{u:HO},G b=some u->cH (λb=>Ow own b/\¬cw a g b) Z G b=some u:=λ{b u}e=>(jX λz=>by rw[U b z]at e;cases e).trans e;obtain⟨h',S'⟩:=s.chg (iJ es (by intro z;cases z)) (y:=.ob a g C eW fw) (Y:=cH (λb=>Ow own b/\¬cw a g b) Z G) (λb u hb e=>by
   by_cases z:Ow own b
   .rw[wU ⟨z,λy=>hb (sub b y)⟩];exact e
   .exact I (cW (V b u ((cX z).trans e))).2) (by
   rw[R];refine⟨fI,rfl,M,I ea,I ed,l',r'.same λb u e=>?_⟩;obtain⟨n1,e⟩:=cW e;rw[cX λz=>by rw[U b ⟨z,n1⟩]at e;cases e];exact I e)
  exact L.nx own _ O _ rx ((bU F).trans S') h'
 |_=>rw[es]at t;exact t.elim
end
section
variable{X:Cx}{a b c e:Expr}{ra rb rc re:RE}{N p:Pos}
def lG{x:Str}{A:Addr}{i:Int}{N:Pos}(b:X.mg x=some (.ref A))(a:∀H,SqT X.K H A [.int i,.int j])(c:Gl X x:=by rfl)(hd:qV x:=by decide):QE X (.Name x N) (rC (.tup [.int i,.int j])):=qC (adI c b hd) λF=>.tup (a F) (.cons (.int _) (.cons (.int _) .nil))
def QE.any{a:Addr->Prop}{r:Addr->RE}(h:∀C,a C->QE X e (r C)):QE X e (λo q=>∃C,a C/\r C o q):=λU s O H Q I ⟨own,o,R,b,⟨C,d,c⟩,k⟩=>h C d U s O H Q I ⟨own,o,R,b,c,k⟩
def qK{rc:RT}{k l:Pos}(j:Scope)(a i J:Φ)(t:QI X tg iter ri)(u:∀{C c d f e},QG (X.compG i I J C c d f e) J.length tg g)(m:∀{C c d f e},fA (X.compG i I J C c d f e) aS rc)(w:∀{C c d f e},QE (X.compG i I J C c d f e) be re)(B:PG X (.Name y0 k) (Cj i0))
 (M:X.env.scope=j:=by rfl)(G:X.N=a:=by rfl)(x:X.calm:=by rfl)(s:I.kind=.function:=by rfl)(h:CK j I a i J:=by decide +kernel)(F:swapsWith (.ListComp be [⟨tg,iter,aS,0⟩] I N) (some (.Name y0 k)) l.line X.env=pure true:=by rfl)(p:zg X iter:=by intro _;rfl) :
  QS X (.Assign [.Name y0 k] (.ListComp be [⟨tg,iter,aS,0⟩] I N) l) (CF i0 (h9 ri J.length g rc re)):=(p9 (gt:=eI X.K J.length g) (tc:=tQT X.K rc) (te:=tQ X.K re) j a i J t u m w B M G x s h F p).imp λD O H ⟨own,o,E,h,r,L⟩=>LQ ⟨own,o,_,h,r,λY v y q S n=>by
 obtain⟨P,A,Q⟩:=h.putA S (n.frz λb z=>(h.sole z).ne) i0;exact L.nx P Y _ _ q Q A⟩
def Hm(i j:Nat)(r:RA):RS:=λE o=>r o λW=>match W with|[t,u]=>E.nx ((o.set i (.fz t)).set j (.fz u))|_=>False
def RF(i j:Nat){x y:Str}{e d f:Pos}{g k c}(K:X.calm)(P:X.N.Nodup)(z:i≠j)(M:QA X [a,b] r)(J:X.N[i]?=some x:=by rfl)(I:X.N[j]?=some y:=by rfl)
 (B:X.env.scope.names.lookup x=some .local:=by rfl)(A:X.env.scope.names.lookup y=some .local:=by rfl)
 (C:swappedStores [.Tuple [.Name x e,.Name y d] g f] (.Tuple [a,b] k c) X.env=pure (some [x,y]):=by rfl)
 (F:swapsWithSole [.Tuple [.Name x e,.Name y d] g f] (.Tuple [a,b] k c) N.line X.env=pure false:=by rfl) :
  QS X (.Assign [.Tuple [.Name x e,.Name y d] g f] (.Tuple [a,b] k c) N) (Hm i j r):=(Pc K P J I z B A M C F).imp λD O H ⟨own,o,E,h,G,L⟩=>⟨own,o,_,h,G,λZ U W q _ m p=>by
 match W,q with
 |[t,u],q =>
  obtain⟨v,w,rfl,n,s⟩:=p.two;refine⟨v,w,rfl,?_⟩;obtain⟨V,R,l⟩:=(h.same m).setF n (X2 i);obtain⟨S,Q,T⟩:=R.putA (.refl _) (NR.fz (s.same l.same)) j;exact L.nx S Z _ _ q ((bU m).trans (l.same.trans T)) Q⟩
def GU{a:Type}{J:List α}{ys:List a}{y:a}(l:J.length=ys.length)(e:ca ys j=some y):∃n x,c6 ys.length j=some n/\ys[n]?=some y/\J[n]?=some x/\dv J j=some x:=by
 rw[Yi]at e;unfold dv at e ⊢;rw[l];cases z:c6 ys.length j with
 |none=>rw[z]at e;cases e
 |some n =>
  rw[z]at e;have b:n<J.length:=l ▸ (ao.mp e).1;exact⟨n,J[n],rfl,e,aj b,aj b⟩
theorem M7{α:Type} : ∀{l:List α},l.Nodup->∀{i j:Nat}{x:α},l[i]?=some x->l[j]?=some x->i=j
 |[],_,_,_,_,e,_=>by cases e
 |y::l,d,i,j,x,b,a=>by
  obtain⟨c,f⟩:=List.nodup_cons.mp d;cases i with
  |zero =>
   cases j with
   |zero=>rfl
   |succ j=>cases b;exact absurd (aC (by simpa using a)) c
  |succ i =>
   cases j with
   |zero=>cases a;exact absurd (aC (by simpa using b)) c
   |succ j=>exact ZH (· + 1) (M7 f (by simpa using b) (by simpa using a))
def SR.l2{K:Frag}{own:Nat->Ψ}{H:Hp}{O:L2.St}{o:xy}(h:SR K own H O o){i:Nat}{c:wb}(e:slot o i=.l2 c):∃l a,O[i]?=some (some (.ref l))/\own i=l::a/\(l::a).Nodup/\H l=some (.lst (a.map V.ref))/\a.length=c.length/\∀(i:Nat)b W,a[i]?=some b->c[i]?=some W->∃J,H b=some (.lst J)/\bV K (hd (Ow own) H) J W:=by
 obtain⟨u,m,l,a,k,j,d,g,f,r⟩:=h.val e (by intro z;cases z);cases k;exact⟨l,a,m,j,d,g,f,r⟩
def SR.chg2{o:xy}(h:SR K own H O o){i:Nat}{j:wb}(e:slot o i=.l2 j){l b:Addr}{a:Ψ}{s:xj}(m:O[i]?=some (some (.ref l)))(p:own i=l::a)(t:(l::a).Nodup)(D:H l=some (.lst (a.map V.ref)))(v:a.length=j.length)(r:∀(i:Nat)b W,a[i]?=some b->j[i]?=some W->∃J,H b=some (.lst J)/\bV K (hd (Ow own) H) J W)(d:a[n]?=some b)(x:bV K (hd (Ow own) H) ys s) :
  SR K own (upd H b (.lst ys)) O (o.set i (.l2 (j.set n s)))/\z0 (hd (Ow own) H) (hd (Ow own) (upd H b (.lst ys))):=by
 have w:=aC d;obtain⟨B,C⟩:=List.nodup_cons.mp t;refine h.chg (iJ e (by intro z;cases z)) (λc u hc e=>(cA λz=>hc (by rw[p,z];exact aJ _ w)).trans e) ?_;rw[m,Im ⟨i,by rw[p];exact aJ _ w⟩];refine⟨l,a,rfl,p,t,(cA λ(z:l=b)=>B (by rwa[z])).trans D,by rw[VT];exact v,λk c W f g=>?_⟩;by_cases z:k=n
 .subst z;rw[d]at f;cases f;rw[Tx (v ▸ (ao.mp d).1)]at g;cases g;exact⟨ys,cF,x⟩
 .rw[UT (Ne.symm z)]at g;obtain⟨J,q,A⟩:=r k c W f g;refine⟨J,(cA λy=>?_).trans q,A⟩;have F:=(ao.mp f).1;have E:=(ao.mp d).1;exact z (M7 C f (by rw[d,y]))
def Yo{a:Ψ}{c:Addr}(e:dv a j=some c):dv (a.map V.ref) j=some (.ref c):=by
 have:dv (a.map V.ref) j=(dv a j).map V.ref:=by unfold dv;rw[ak];cases c6 a.length j<;>simp
 rw[this,e];rfl
def DA(i:Nat)(a b:RE):RE:=λo q=>match slot o i with
 |.l2 c=>a o λx=>(match frz x with|.int j=>∃W,ca c j=some W/\b o λy=>(match frz y with|.int m=>∃t,ca W m=some t/\q (.fz t)|_=>False)|_=>False)
 |_=>False
def _M(i:Nat){x:Str}(F:QE X a ra)(E:QE X b rb)(I:n_X X i x:=by exact⟨rfl,rfl,wf,wf⟩)(B:wI a:=by exact λ_ _=>rfl)(D:wI b:=by exact λ_ _=>rfl):QE X (.Subscript (.Subscript (.Name x p) a p2) b N) (DA i ra rb):=(Qj B_ (Qj B_ (pv i I) F B) E D).imp λO H Q G=>by
 obtain⟨own,o,R,h,d,k⟩:=G;unfold DA at d;cases es:slot o i with
 |l2 aw =>
  rw[es]at d;obtain⟨l,m,e1,e3,nd,Y,A,r⟩:=h.l2 es;refine⟨_,e1,tQ.mk h d λZ v x q j f=>?_⟩
  revert f q
  generalize frz x=t;intro q f;cases t<;>try exact q.elim
  cases f;obtain⟨W,P,q⟩:=q;obtain⟨n,c,_,K,T,S⟩:=GU (J:=m) A P;obtain⟨J,L,s⟩:=r n c W T K;refine⟨l,m.map V.ref,_,.ref c,rfl,rfl,.of (j _ _ Y),?_,tQ.mk (h.same j) q λH2 w y q E2 e=>?_⟩
  .exact Yo S
  .revert e q
   generalize frz y=t;intro q e;cases t<;>try exact q.elim
   cases e;obtain⟨t,M,q⟩:=q;obtain⟨z,U,u⟩:=s.ix M;have g:=j.trans E2;exact⟨c,J,_,z,rfl,rfl,.of (g _ _ L),U,k H2 _ _ q g (NR.fz (u.same (bU g)))⟩
 |_=>rw[es]at d;exact d.elim
def C'(i:Nat)(a b:RE):RS:=λE o=>match slot o i with
 |.l2 c=>a o λx=>(match frz x with|.int j=>∃n W,c6 c.length j=some n/\c[n]?=some W/\W.length<sizeLine/\b o λy=>E.nx (o.set i (.l2 (c.set n (W++[frz y]))))|_=>False)
 |_=>False
def sf{a:Type}{J:List α}{ys:List a}{y:a}(l:J.length=ys.length)(e:c6 ys.length j=some n)(c:ys[n]?=some y):∃x,J[n]?=some x/\dv J j=some x:=by
 have b:n<J.length:=l ▸ (ao.mp c).1;exact⟨J[n],aj b,by unfold dv;rw[l,e];exact aj b⟩
def Ta(i:Nat){x:Str}{k:Pos}(ha:QE X a ra)(Y:QE X e re)(hN:n_X X i x:=by exact⟨rfl,rfl,wf,wf⟩)(M:wI a:=by exact λ_ _=>rfl)
 (hb:attributeBase (.Subscript (.Name x p) a p2) "append" X.env (eval (.Subscript (.Name x p) a p2) X.env)=eval (.Subscript (.Name x p) a p2) X.env:=by rfl)
 (U:zk X af e:=by rfl)
 (T:ze k af:=by rfl)(F:qS X e []:=by rfl)(R:qE X af []:=by rfl)
 (Q:swapsWith (.Call (.Attribute (.Subscript (.Name x p) a p2) "append" k) [e] [] af) none N.line X.env=pure false:=by rfl) :
  QS X (.Expr (.Call (.Attribute (.Subscript (.Name x p) a p2) "append" k) [e] [] af) N) (C' i ra re):=(vL (EV (Qj B_ (pv i hN) ha M) (f9 Y zW F) hb U T F R) Q).imp λD O H hP=>by
 obtain⟨own,o,E,h,f,L⟩:=hP;unfold C' at f;cases es:slot o i with
 |l2 aw =>
  rw[es]at f;obtain⟨l,G,C,e3,K,B,s,r⟩:=h.l2 es;refine⟨_,C,tQ.mk h f λZ v x q g j=>?_⟩
  revert j q
  generalize frz x=t;intro q j;cases t<;>try exact q.elim
  cases j;obtain⟨n,W,en,u,sz,q⟩:=q;obtain⟨c,A,ei⟩:=sf (J:=G) s en u;obtain⟨J,z,m⟩:=r n c W A u;refine⟨l,G.map V.ref,_,.ref c,rfl,rfl,.of (g _ _ B),Yo ei,c,J,rfl,g _ _ z,tQ.mk (h.same g) q λH2 w y q E2 I=>?_⟩;have d:=g.trans E2;refine⟨w,J,rfl,d _ _ z,by rw[m.len];exact sz,?_⟩;obtain⟨h',S⟩:=(h.same d).chg2 es C e3 K (d _ _ B) s (λi b W a c=>let⟨J,p,q⟩:=r i b W a c;⟨J,d _ _ p,q.same (bU d)⟩) A ((m.same (bU d)).app (.cons I .nil));exact L.nx own _ O _ q ((bU d).trans S) h'
 |_=>rw[es]at f;exact f.elim
def C7(i:Nat)(c a b:RE):RS:=λE o=>match slot o i with
 |.l2 d=>c o λy=>a o λx=>(match frz x with|.int j=>∃n W,c6 d.length j=some n/\d[n]?=some W/\b o λz=>(match frz z with|.int m=>∃k,c6 W.length m=some k/\E.nx (o.set i (.l2 (d.set n (W.set k (frz y)))))|_=>False)|_=>False)
 |_=>False
def Z'(i:Nat){x:Str}(he:QE X e re)(ha:QE X a ra)(hk:QE X b rb)(hN:n_X X i x:=by exact⟨rfl,rfl,wf,wf⟩)(U:wI a:=by exact λ_ _=>rfl)
 (hq:∀v,assign (.Subscript (.Subscript (.Name x p) a p2) b az) X.env v=(do
   let m <- holding [v] (eval (.Subscript (.Name x p) a p2) X.env)
   let A <- holding [v,m] (eval b X.env)
   standAt az
   holding [v,m,A] (setItem m A v)
   release [v,m,A] []):=by intro _;rfl)
 (hs:swapsWithSole [.Subscript (.Subscript (.Name x p) a p2) b az] e N.line X.env=pure false:=by rfl)(hw:swappedStores [.Subscript (.Subscript (.Name x p) a p2) b az] e X.env=pure none:=by rfl)
 (h1:(assignEach [.Subscript (.Subscript (.Name x p) a p2) b az] X.env).map (·.2)=[assign (.Subscript (.Subscript (.Name x p) a p2) b az) X.env]:=by rfl):QS X (.Assign [.Subscript (.Subscript (.Name x p) a p2) b az] e N) (C7 i re ra rb):=(X5 he (EU (Qj B_ (pv i hN) ha U) hk set_list hq) hs hw h1).imp λD O H hP=>by
 obtain⟨own,o,E,h,g,L⟩:=hP;unfold C7 at g;cases es:slot o i with
 |l2 aw =>
  rw[es]at g;obtain⟨l,M,K,e3,T,I,C,r⟩:=h.l2 es;refine tQ.mk h g λH0 v0 y q j R=>⟨_,K,tQ.mk (h.same j) q λZ v x q Q u=>?_⟩
  revert u q
  generalize frz x=t;intro q u;cases t<;>try exact q.elim
  cases u;obtain⟨n,W,en,F,q⟩:=q;obtain⟨c,G,ei⟩:=sf (J:=M) C en F;obtain⟨J,eq,B⟩:=r n c W G F;have f:=j.trans Q;refine⟨l,M.map V.ref,_,.ref c,rfl,rfl,.of (f _ _ I),Yo ei,tQ.mk (h.same f) q λH2 w z q P s=>?_⟩
  revert s q
  generalize frz z=t;intro q s;cases t<;>try exact q.elim
  cases s;obtain⟨k,ek,q⟩:=q;have d:=f.trans P;refine⟨c,J,_,k,rfl,rfl,d _ _ eq,by rw[B.len];exact ek,?_⟩;obtain⟨h',S⟩:=(h.same d).chg2 es K e3 T (d _ _ I) C (λi b W a c=>let⟨J,p,q⟩:=r i b W a c;⟨J,d _ _ p,q.same (bU d)⟩) G (bV.set (R.same (bU (Q.trans P))) k (B.same (bU d)));exact L.nx own _ O _ q ((bU d).trans S) h'
 |_=>rw[es]at g;exact g.elim
def IJ:zn
 |.str i,.str j,q=>q (.fz (.bl (!decide (j.cps.toList<i.cps.toList))))
 |_,_,_=>False
def EC:GO X (compareOp .LtE) IJ:=Sj.imp λx y H Q d=>by
 obtain⟨S,t,u,R,_,c,b,a,k⟩:=d;cases c<;>try exact a.elim
 cases b<;>try exact a.elim
 exact⟨_,_,rfl,rfl,k H _ _ a (.refl _) (NR.fz (.bl _))⟩
def UC:GC X (.builtin "len") (g1 Jn):=.one Sh λS t x H Q R b a k=>by
 cases t<;>try exact a.elim
 cases b;exact⟨_,rfl,a.1,k H _ _ a.2 (.refl _) (NR.fz (.int _))⟩
def Ix(a:RE):RI:=λo q=>a o λx=>match frz x with|.str s=>q (s.cps.toList.map λc=>.str ⟨#[c]⟩)|_=>False
def RU(j:QE X e re):QI X tg e (Ix re):=(NS j).imp λO H Q ⟨own,o,R,h,f,k⟩=>tQ.mk h f λZ v x q l b=>by
 revert b q
 generalize frz x=t;intro q b;cases t<;>try exact q.elim
 cases b;refine⟨_,rfl,k Z _ _ q l λS r i _ n=>⟨λg=>show i=_ by simpa using g,λt a=>?_⟩⟩;rw[aq]at a;cases z:(‹Str›.cps.toList)[i]? with
 |none=>rw[z]at a;cases a
 |some c =>
  rw[z]at a;cases a;refine⟨show i<_ by simpa using(ao.mp z).1,?_⟩;rintro x p ⟨rfl,m,d,rfl⟩;rw[<- Array.getElem?_toList,z]at d;cases d;exact⟨.refl _,.str _⟩
end
abbrev HG:=zh
section
variable{α β:Type}{g:HG}{b:RS}{E:DT}{o:xy}
theorem E6(h:α->T)(l:List α)(J:List α->xy->Prop)(st:∀as a c o,l=as++a::c->J as o->g (h a) o λf=>b { E with nx:=J (as++[a]),ct:=J (as++[a]),bk:=E.nx } f)(d:∀o,J l o->E.nx o):∀(c as:List α)(o:xy),l=as++c->J as o->Ab g b E (c.map h) o
 |[],as,o,e,j=>d o (by rw[append_nil]at e;rwa[e])
 |a::c,as,o,e,j=>⟨J (as++[a]),λo k=>E6 h l J st d c (as++[a]) o (by rw[e];simp) k,st as a c o e j⟩
def gK(h:α->T)(l:List α)(J:List α->xy->Prop)(j:J [] o)(st:∀as a d o,l=as++a::d->J as o->g (h a) o λc=>b { E with nx:=J (as++[a]),ct:=J (as++[a]),bk:=E.nx } c)(e:∀o,J l o->E.nx o):Ab g b E (l.map h) o:=E6 h l J st e l [] o rfl j
theorem Fp(a:Nat->xy->Prop):∀(J:xj)(k:Nat){o:xy},a k o->(∀i t o,J[i]?=some t->a (k+i) o->g t o λd=>b { E with nx:=a (k+i+1),ct:=a (k+i+1),bk:=E.nx } d)->(∀o,a (k+J.length) o->E.nx o)->Ab g b E J o
 |[],_,o,j,_,c=>c o j
 |t::W,k,o,j,st,c=>⟨a (k+1),λo z=>Fp a W (k+1) z (λi t o e z=>by
   have:=st (i+1) t o (by simpa using e) (by rw[show k+(i+1)=k+1+i by lia];exact z);rw[show k+(i+1)+1=k+1+i+1 by lia]at this;exact this) (λo z=>c o (by rw[length_cons,show k+(W.length+1)=k+1+W.length by lia];exact z)),st 0 t o rfl j⟩
def Aw(J:Nat->xy->Prop)(j:J 0 o)(st:∀k o,k<n->J k o->g (.int (k:Nat)) o λc=>b { E with nx:=J (k+1),ct:=J (k+1),bk:=E.nx } c)(d:∀o,J n o->E.nx o):Ab g b E (rng 0 n) o:=by
 refine Fp J (rng 0 n) 0 j (λi t o e z=>?_) λo z=>d o (by rw[rng,ak,WH,Nat.zero_add]at z;exact z);unfold rng at e;rw[aq]at e;by_cases a:i<n
 .rw[Up a]at e;cases e;rw[Nat.zero_add]at z ⊢;have:=st i o a z;show g (.int (0+((i:Nat):Int))) o _;rw[show(0:Int)+((i:Nat):Int)=((i:Nat):Int)by exact Int.zero_add _];exact this
 .rw[aM (by simpa using a)]at e;cases e
def Cd(h:α->T)(l:List α)(J:Nat->xy->Prop)(j:J 0 o)(st:∀k a o,l[k]?=some a->J k o->g (.tup [.int (k:Nat),h a]) o λd=>b { E with nx:=J (k+1),ct:=J (k+1),bk:=E.nx } d)(f:∀o,J l.length o->E.nx o):Ab g b E (Df (l.map h)) o:=by
 refine Fp J (Df (l.map h)) 0 j (λi t o e z=>?_) λo z=>f o (by rw[Df,ak,length_zipIdx,ak,Nat.zero_add]at z;exact z);unfold Df at e;rw[aq]at e;by_cases c:i<l.length
 .rw[aj (by simpa using c),List.getElem_zipIdx,UR]at e;cases e;rw[Nat.zero_add]at z ⊢;have:=st i _ o (aj c) z;exact this
 .rw[aM (by simpa using c)]at e;cases e
variable{c:RT}{e:RE}{q:xj->Prop}
theorem comp_map(h:α->T)(f:α->T):∀(l:List α){q:xj->Prop},(∀a∈l,∀(N:T->Prop)(M:Prop),N (f a)->g (h a) o λd=>c d λb=>sw b (e d λy=>N (frz y)) M)->q (l.map f)->iI g c e o (l.map h) q
 |[],_,_,k=>k
 |a::l,q,st,k=>⟨λy=>y=f a,False,λy z=>comp_map h f l (λa i=>st a (aJ _ i)) (z ▸ k),False.elim,st a (aO ..) (λy=>y=f a) False rfl⟩
theorem tU(h:α->T)(p:α->Bool)(f:α->T):∀(l:List α){q:xj->Prop},(∀a∈l,∀(N:T->Prop)(M:Prop),(p a=true->N (f a))->(p a=false->M)->g (h a) o λi=>c i λb=>sw b (e i λy=>N (frz y)) M)->q ((l.filter p).map f)->iI g c e o (l.map h) q
 |[],_,_,k=>k
 |a::l,q,st,k=>⟨λy=>y=f a/\p a,p a=false,λy z=>tU h p f l (λa d=>st a (aJ _ d)) (by rw[List.filter_cons_of_pos z.2]at k;exact z.1 ▸ k),λz=>tU h p f l (λa d=>st a (aJ _ d)) (by rw[List.filter_cons_of_neg (by rw[z];decide)]at k;exact k),st a (aO ..) (λy=>y=f a/\p a) (p a=false) (λz=>⟨rfl,z⟩) id⟩
inductive j3(R:α->T->Prop):List α->xj->Prop
 |nil:j3 R [] []
 |cons {a:α}{t:T}{l:List α}{W:xj} : R a t->j3 R l W->j3 R (a::l) (t::W)
theorem Vl(h:α->T)(R:α->T->Prop):∀(l:List α){q:xj->Prop},(∀a∈l,∀(N:T->Prop)(M:Prop),(∀t,R a t->N t)->g (h a) o λd=>c d λb=>sw b (e d λy=>N (frz y)) M)->(∀W,j3 R l W->q W)->iI g c e o (l.map h) q
 |[],_,_,k=>k [] .nil
 |a::l,q,st,k=>⟨R a,False,λy z=>Vl h R l (λa f=>st a (aJ _ f)) λW t=>k _ (.cons z t),False.elim,st a (aO ..) (R a) False λ_ z=>z⟩
def Ua(f:Nat->T)(n:Nat)(st:∀k,k<n->∀(N:T->Prop)(M:Prop),N (f k)->g (.int (k:Nat)) o λd=>c d λb=>sw b (e d λy=>N (frz y)) M)(k:q ((range n).map f)):iI g c e o (rng 0 n) q:=by
 refine comp_map (λk:Nat=>.int (0+k)) f (range n) (λa h N M i=>?_) k;have:=st a (List.mem_range.mp h) N M i;show g (.int (0+((a:Nat):Int))) o _;rw[show(0:Int)+((a:Nat):Int)=((a:Nat):Int)by exact Int.zero_add _];exact this
def zip_map{α β:Type}(h:α->T)(k:β->T)(J:List α)(ys:List β):xX (J.map h) (ys.map k)=(J.zip ys).map λp=>.tup [h p.1,k p.2]:=by
 unfold xX;rw[List.zip_map,WJ]
 rfl
def ac6{α:Type}(h:α->T)(J:List α):Df (J.map h)=J.zipIdx.map λp=>.tup [.int (p.2:Nat),h p.1]:=by
 unfold Df;rw[List.zipIdx_map,WJ]
 rfl
end
def R8(ks:xi)(j:bX):Bool:=ks.any λk=>decide (k=j)
def e_(ks:xi)(j:bX):xi:=if R8 ks j=true then ks else ks++[j]
def d3(ks:xi)(W:List α)(j:bX)(t:α):List α:=if R8 ks j=true then ks.zipWith (λk x=>if k=j then t else x) W else W++[t]
def _S{j:bX}(l:ks.length=J.length):putK (ks.zip J) j v=(e_ ks j).zip (d3 ks J j v)/\(e_ ks j).length=(d3 ks J j v).length:=by
 have any:∀{ks:xi}{J:Ζ},ks.length=J.length->((ks.zip J).any λb=>decide (b.1=j))=R8 ks j:=λ{ks}=>by
  induction ks with
  |nil=>intro J _;rfl
  |cons k ks a =>
   intro J l;cases J with
   |nil=>cases l
   |cons x J=>rw[zip_cons_cons,any_cons,a (Nat.succ.inj l)];rfl
 unfold putK e_ d3;rw[any l];by_cases h:R8 ks j
 .rw[ZY h,ZY h,ZY h];refine⟨?_,by rw[JP,l,UV]⟩
  clear any h
  induction ks generalizing J with
  |nil=>rfl
  |cons k ks a =>
   cases J with
   |nil=>cases l
   |cons x J =>
    rw[zip_cons_cons,map_cons,a (Nat.succ.inj l),zipWith_cons_cons,zip_cons_cons];by_cases h:k=j
    .rw[ZY h,ZY h]
    .rw[ZZ h,ZZ h]
 .rw[ZZ h,ZZ h,ZZ h];exact⟨by rw[List.zip_append l];rfl,by simp[l]⟩
def bV.kp{F:Hp}{j:bX}(r:Rep K F v t)(h:bV K F J W):bV K F (d3 ks J j v) (d3 ks W j t):=by
 unfold d3;by_cases z:R8 ks j
 .rw[ZY z,ZY z]
  clear z
  induction ks generalizing J W with
  |nil=>exact .nil
  |cons k ks c =>
   cases h with
   |nil=>exact .nil
   |cons a b =>
    rw[zipWith_cons_cons,zipWith_cons_cons];refine .cons ?_ (c b);by_cases y:k=j
    .rw[ZY y,ZY y];exact r
    .rw[ZZ y,ZZ y];exact a
 .rw[ZZ z,ZZ z];exact h.app (.cons r .nil)
section
variable{X:Cx}{a b c e:Expr}{ra rb rc re:RE}{N p:Pos}
def C1(i:Nat)(a b:RE):RS:=λE o=>match slot o i with|.d1 ks W=>a o λy=>b o λk=>∃j,ic (frz k)=some j/\ks.length<sizeLine/\E.nx (o.set i (.d1 (e_ ks j) (d3 ks W j (frz y))))|_=>False
def SR.d1{K:Frag}{own:Nat->Ψ}{H:Hp}{O:L2.St}{o:xy}(h:SR K own H O o){i:Nat}{ks:xi}{W:xj}(e:slot o i=.d1 ks W):∃l J,O[i]?=some (some (.ref l))/\own i=[l]/\H l=some (.dK (ks.zip J))/\ks.length=J.length/\bV K (hd (Ow own) H) J W:=by
 obtain⟨u,d,l,J,c,b,a,r⟩:=h.val e (by intro z;cases z);cases c;exact⟨l,J,d,b,a,r⟩
def Sd(i:Nat){x:Str}(G:X.A.units+1<cLine)(K:QE X e re)(d:QE X b rb)(P:n_X X i x:=by exact⟨rfl,rfl,wf,wf⟩)
 (I:swapsWith e (some (.Subscript (.Name x p) b az)) N.line X.env=pure false:=by rfl):QS X (.Assign [.Subscript (.Name x p) b az] e N) (C1 i re rb):=(VE G (pv i P) d K I).imp λD O H M=>by
 obtain⟨own,o,E,h,a,L⟩:=M;unfold C1 at a;cases es:slot o i with
 |d1 ks W =>
  rw[es]at a;obtain⟨l,J,k,f,T,g,r⟩:=h.d1 es;refine tQ.mk h a λZ v y q n t=>⟨_,k,tQ.mk (h.same n) q λH2 w z q m s=>?_⟩;obtain⟨j,R,sz,q⟩:=q;have c:=n.trans m;cases R_ s R;obtain⟨B,pl⟩:=_S (j:=j) (v:=v) g;have C:(ks.zip J).length<sizeLine:=by rw[VZ,<- g,UV];exact sz
  refine⟨l,_,rfl,.inl ⟨_,j,c _ _ T,rfl,C,rfl⟩,?_⟩;rw[B];obtain⟨Q,S⟩:=(h.same c).chg (iJ es (by intro z;cases z)) (y:=.d1 (e_ ks j) (d3 ks W j (frz y))) (Y:=upd H2 l (.dK ((e_ ks j).zip (d3 ks J j v)))) (λb u d e=>(cA λz=>d (by rw[f,z];simp)).trans e) (by
   rw[k,Im ⟨i,by rw[f];simp⟩];exact⟨l,_,rfl,f,cF,pl,bV.kp (t.same (bU m)) (r.same (bU c))⟩)
  exact L.nx own _ O _ q ((bU c).trans S) Q
 |_=>rw[es]at a;exact a.elim
def De(i:Nat)(a b:RE):RE:=λo q=>match slot o i with|.d1 ks W=>a o λy=>b o λz=>∃j,ic (frz y)=some j/\q (.fz ((su ks W j).getD (frz z)))|_=>False
def _V(i:Nat){x:Str}{g:Pos}(F:X.A.units+1<cLine)(I:QE X a ra)(G:QE X b rb)(m:M2 X (.Name x p) "get" g a b af:=by first|exact⟨rfl,rfl,rfl,rfl⟩|constructor<;>rfl)(L:n_X X i x:=by exact⟨rfl,rfl,wf,wf⟩) :
  QE X (.Call (.Attribute (.Name x p) "get" g) [a,b] [] af) (De i ra rb):=(_t F (pv i L) I G m).imp λO H Q K=>by
 obtain⟨own,o,R,h,c,k⟩:=K;unfold De at c;cases es:slot o i with
 |d1 ks W =>
  rw[es]at c;obtain⟨l,J,S,e3,f,Y,r⟩:=h.d1 es;refine⟨_,S,l,rfl,.inl ⟨_,.inl f⟩,tQ.mk h c λZ v y q s D=>tQ.mk (h.same s) q λn w z q V C=>?_⟩;obtain⟨j,M,q⟩:=q;have e:=s.trans V;cases R_ D M;refine⟨_,H_.k (e _ _ f),?_⟩;have r:=r.same (bU e);cases d:su ks W j with
  |none =>
   rw[d]at q;rw[(HN r).2 d];exact k n _ _ q e (NR.fz C)
  |some t =>
   rw[d]at q;obtain⟨u,P,B⟩:=(HN r).1 t d;rw[P];exact k n _ _ q e (NR.fz B)
 |_=>rw[es]at c;exact c.elim
def kT:bX->T
 |.inl i=>.int i
 |.inr s=>.str s
def pa(f:xi->xj->xj)(i n:Nat)(g:zh)(c:RT)(e:RE):RS:=λE o=>match slot o i with
 |.d1 ks W=>ks.length<=sizeLine/\iI g c e (replicate n .und++o.set i (.fz (.dct ks W))) (f ks W) λa=>E.rt (.l1 a)
 |_=>False
def iW(J:Addr->Obj->xF->It)(c:TE):TI:=λO H R=>c O H λx Z=>∃a b,x=.ref a/\Z a=some (.dK b)/\∀o,R (J a o b) (upd Z a (.frz o (.dK b)))
abbrev MQ:=pa λks _=>ks.map kT
def TB{a:Addr}{f:Obj}{F:Hp}(l:ks.length=J.length)(e:F a=some (.frz f (.dK (ks.zip J)))):ie K (mo a f (ks.zip J)) F (ks.map kT):=λS H i _ m=>by
 have g:=(cW (m _ _ e)).2;have c:(ks.zip J).length=ks.length:=by rw[VZ,<- l,UV]
 refine⟨λd=>⟨g,by rw[c];simpa using d⟩,λt b=>?_⟩;rw[aq]at b;cases z:ks[i]? with
 |none=>rw[z]at b;cases b
 |some k =>
  rw[z]at b;cases b;have d:=(ao.mp z).1;refine⟨⟨g,by rwa[c]⟩,?_⟩;rintro x Y ⟨rfl,n,y,h,rfl⟩;rw[aj (by rwa[c]),getElem_zip]at h;rw[aj d]at z;cases z;cases h;refine⟨.refl _,?_⟩;cases ks[i]with
  |inl j=>exact .int _
  |inr s=>exact .str _
def XI{d:Addr->Obj->xF->It}{f:xi->xj->xj}{rc:RT}(i:Nat)(pi:PI X tg iter (iW d (ot i)))(U:∀{a q ks J W F},ks.length=J.length->F a=some (.frz q (.dK (ks.zip J)))->bV X.K F J W->ie X.K (d a q (ks.zip J)) F (f ks W)/\(f ks W).length=ks.length)(V:Scope)(c M J:Φ)(hg:∀{C m p G x},QG (X.compG M I J C m p G x) J.length tg g)(ht:∀{C m p G x},fA (X.compG M I J C m p G x) aS rc)(he:∀{C m p G x},QE (X.compG M I J C m p G x) be re)
 (c9:X.env.scope=V:=by rfl)(de:X.N=c:=by rfl)(hc:X.calm:=by rfl)(hk:I.kind=.function:=by rfl)(h:CK V I c M J:=by decide +kernel)(hs:zg X iter) :
  QS X (.Return (some (.ListComp be [⟨tg,iter,aS,0⟩] I af)) N) (pa f i J.length g rc re):=(Tz (pk (gt:=eI X.K J.length g) (tc:=tQT X.K rc) (te:=tQ X.K re) V c M J pi hg ht he c9 de hc hk h hs)).imp λD O H Z=>by
 obtain⟨own,o,E,h,t,L⟩:=Z;unfold pa at t;cases es:slot o i with
 |d1 ks W =>
  rw[es]at t;obtain⟨l,ys,e1,R,e4,ln,r⟩:=h.d1 es;refine⟨_,e1,l,_,rfl,e4,λq DD nD=>?_⟩;have eo:∀b,Ow (own1 own i []) b->Ow own b/\b≠l:=λb Z=>by
   obtain⟨j,z⟩:=Z;by_cases y:j=i
   .rw[y,k_]at z;cases z
   .rw[gw y]at z;exact⟨⟨j,z⟩,λw=>y (h.dis j i b z (by rw[R,w];simp))⟩
  have nl:¬Ow (own1 own i []) l:=λz=>(eo l z).2 rfl;have ol:Ow own l:=⟨i,by rw[R];simp⟩;have T:z0 (hd (Ow own) H) (hd (Ow (own1 own i [])) (upd H l (.frz q (.dK (ks.zip ys))))):=λb u e=>by
   obtain⟨n,e⟩:=cW e;rw[cX λz=>n (eo b z).1,cA λ(z:b=l)=>n (z.symm ▸ ol)];exact e
  have h1:SR X.K (own1 own i []) (upd H l (.frz q (.dK (ks.zip ys)))) O (o.set i (.fz (.dct ks W))):=by
   have hi:i<o.length:=(ao.mp (iJ es (by intro z;cases z))).1;refine⟨by rw[VT,h.len],λj y S=>?_,λj hj a A=>?_,λj k a Q P=>?_⟩
   .by_cases z:j=i
    .subst z;rw[Tx hi]at S;cases S;rw[k_,e1];exact⟨rfl,_,rfl,.dct (.inr ⟨q,by rw[cX nl];exact cF⟩) ln (r.same T)⟩
    .rw[UT (Ne.symm z)]at S;rw[gw z];exact((h.sl j y S).same T (.refl _)).off λb hb u e=>(cA λw=>z (h.dis j i b hb (by rw[R,w];simp))).trans e
   .rw[VT]at hj;rw[gw wp]at A;obtain⟨J,e⟩:=h.out j hj a A;exact⟨J,(cA λw=>by have:=h.dis j i a A (by rw[R,w];simp);lia).trans e⟩
   .by_cases z:j=i
    .rw[z,k_]at Q;cases Q
    by_cases y:k=i
    .rw[y,k_]at P;cases P
    .rw[gw z]at Q;rw[gw y]at P;exact h.dis j k a Q P
  have L1:=L.step T;obtain⟨U,wl⟩:=U ln (by rw[cX nl];exact cF) (r.same T);refine Va h1 U (by rw[wl];exact t.1) t.2 nD λY v y rx E n=>?_;obtain⟨B,nb,s⟩:=n;exact L1.rt _ Y v y B rx (jG (λb z=>z.imp id (nb b)) E) s λa A=>.inr A
 |_=>rw[es]at t;exact t.elim
def _C{rc:RT}{x:Str}(i:Nat)(k:Scope)(a j J:Φ)(r:∀{C b c f d},QG (X.compG j I J C b c f d) J.length tg g)(n:∀{C b c f d},fA (X.compG j I J C b c f d) aS rc)(s:∀{C b c f d},QE (X.compG j I J C b c f d) be re)
 (u:n_X X i x:=by exact⟨rfl,rfl,wf,wf⟩)
 (w:X.env.scope=k:=by rfl)(v:X.N=a:=by rfl)(t:X.calm:=by rfl)(q:I.kind=.function:=by rfl)(h:CK k I a j J:=by decide +kernel)(o:∀z,foldedSetIterable (.Name x p) X.env z=pure z:=by intro _;rfl) :
  QS X (.Return (some (.ListComp be [⟨tg,.Name x p,aS,0⟩] I af)) N) (MQ i J.length g rc re):=XI i (WE (tg:=tg) (pv i u)) (λl e _=>⟨TB l e,by rw[ak]⟩) k a j J r n s w v t q h o
end
def oe(K:Frag)(as:Ψ)(H:Hp)(b:wb):Prop:=b.length=as.length/\∀(j:Nat)a W,as[j]?=some a->b[j]?=some W->∃J,H a=some (.lst J)/\bV K (hd (· ∈ as) H) J W
abbrev SO:=wb->xj->(wb->Prop)->Prop
def eg(K:Frag)(S:SO):Sp:=λd H Q _=>∃(as:Ψ)(c:wb)(a:Ζ)(W:xj)(R:wb->Prop),d=as.map V.ref++a/\as.Nodup/\oe K as H c/\bV K (hd (· ∈ as) H) a W/\S c W R /\
 ∀Y b,R b->z0 (hd (· ∈ as) H) (hd (· ∈ as) Y)->oe K as Y b->Q .non Y
def ownL(as:Ψ)(i:Nat):Ψ:=match as[i]? with|some a=>[a]|none=>[]
def Kh{i:Nat}(h:b∈ownL as i):as[i]?=some b:=by
 unfold ownL at h;cases e:as[i]? with
 |none=>rw[e]at h;cases h
 |some a=>rw[e]at h;cases YR.mp h;rfl
def Zm{i:Nat}(h:as[i]?=some b):ownL as i=[b]:=by unfold ownL;rw[h]
def Ow.ownL(as:Ψ):Ow (L2.ownL as)=(· ∈ as):=funext λb=>propext ⟨λ⟨i,z⟩=>aC (Kh z),λz=>by
 obtain⟨i,e⟩:=aV z;exact⟨i,by rw[Zm e];simp⟩⟩
def startO(n:Nat)(as:Ψ)(a:wb)(W:xj):xy:=zipWith OT.la as a++start' (n-as.length) W
def SR.startO{H:Hp}{as:Ψ}{g:wb}{k:Ζ}{W:xj}(t:as.Nodup)(h:oe K as H g)(r:bV K (hd (· ∈ as) H) k W)(N:Φ)(y:as.length+k.length<=N.length):SR K (ownL as) H (L2.start N (as.map V.ref++k)) (L2.startO N.length as g W):=by
 have c:(zipWith OT.la as g).length=as.length:=by rw[JP,h.1,UV]
 refine⟨?_,λi x e=>?_,λi a b u=>?_,λi j b m w=>M7 t (Kh m) (Kh w)⟩
 .unfold L2.startO start' L2.start;have:=r.len;simp only[aA,ak,aN,c];lia
 .rw[Ow.ownL];unfold L2.startO at e;unfold L2.start;by_cases a:i<as.length
  .rw[aF (by rwa[c]),List.getElem?_zipWith]at e;have f:=aj a;have n:=aj (l:=g) (by rwa[h.1]);rw[f,n]at e;cases e;rw[Zm f,aF (by simp;exact WS _ a),aq,aF (by simpa using a),aq,f];obtain⟨J,q,o⟩:=h.2 i _ _ f n;exact⟨J,rfl,rfl,q,o⟩
  .have s:ownL as i=[]:=by unfold ownL;rw[aM (Nat.not_lt.mp a)]
   rw[s];rw[aD (by rw[c];exact Nat.not_lt.mp a),c]at e;unfold start' at e;by_cases d:i-as.length<W.length
   .rw[aF (by simpa using d),aq,aj d]at e;cases e;obtain⟨v,m,p⟩:=r.at_ (aj d);have:=r.len;rw[aF (by simp;lia),aq,aD (by simpa using Nat.not_lt.mp a),ak,m];exact⟨rfl,v,rfl,p⟩
   .rw[aD (by simpa using d),ak,X1]at e;split at e
    .cases e;rfl
    .cases e
 .unfold L2.startO at a;rw[aA,c]at a;have:=(ao.mp (Kh u)).1;lia
theorem slot_of:∀{o:xy}{i:Nat}{x:OT},o[i]?=some x->slot o i=x
 |[],_,_,e=>by cases e
 |_::_,0,_,e=>by cases e;rfl
 |_::l,i+1,x,e=>slot_of (o:=l) (by simpa using e)
def Fun.okO{x:Str}{N:Φ}{S:SO}(F:Fun K x qual st f fd)(C:bK N ps (bG st))(i:∀d W R,S d W R->d.length+W.length=ps.length)(hn:ps.length<=N.length)
 (bg:∀(p:Value)(A:Around)(c:xt)(s:Shared)(H:Hp)(E:XK),dX k (A.deeper (envOfC qual (bG st) s.zs f p))->N.Nodup ->
   ∃r,fb (MK ab P w K mg base N qual (bG st) f p A c s H E).nox (dZ st) r/\∀as d W R,d.length=as.length->S d W R->r { nx:=λo=>∃g,(∀j,slot o j=slot (zipWith OT.la as g) j\/as.length<=j)/\g.length=as.length/\R g,rt:=λ_=>False } (startO N.length as d W)):bW P w K mg base ab (k+1) f fd ps (eg K S):=by
 refine F.ok C (λG H Q E h=>?_) λp A c s H G Q E V h=>?_
 .obtain⟨as,d,I,W,R,rfl,_,l,r,m,_⟩:=h;rw[aA,ak,<- l.1,r.len];exact i _ _ _ m
 .obtain⟨as,d,I,W,R,rfl,T,l,r,m,q⟩:=h;obtain⟨rd,Z,X⟩:=bg p A c s H E V C.nd;have L:=SR.startO T l r N (by rwa[<- l.1,r.len,i _ _ _ m]);refine⟨_,Z,_,_,_,L,X as d W R l.1 m,⟨λown Y O o v E h=>?_,λ_ _ _ _ _ z=>z.elim,λ_ _ _ _ z=>z.elim,λ_ _ _ _ z=>z.elim,λ_ _ _ _ _ _ z=>z.elim⟩⟩;obtain⟨g,es,B,v⟩:=v;rw[Ow.ownL]at E;have D:∀(j:Nat)a t,as[j]?=some a->g[j]?=some t->slot o j=.la a t:=λj a t n y=>by
   rcases es j with z|z
   .rw[z];exact slot_of (by rw[List.getElem?_zipWith,n,y])
   .exact absurd (ao.mp n).1 (Nat.not_lt.mpr z)
  have sub:z0 (hd (Ow own) Y) (hd (· ∈ as) Y):=jG (λb z=>.inl (by
   obtain⟨j,e⟩:=aV z;have U:j<g.length:=B ▸ (ao.mp e).1;obtain⟨u,_,J,_,e3,_⟩:=h.val (D j b _ e (aj U)) (by intro z;cases z);exact⟨j,by rw[e3];simp⟩)) λ_ _ z=>z
  refine q Y g v (E.trans sub) ⟨B,λj a t n y=>?_⟩;obtain⟨u,_,J,_,_,e4,M⟩:=h.val (D j a t n y) (by intro z;cases z);exact⟨J,e4,M.same sub⟩
def EO{o:xy}(h:SR K own H O o)(l:∀a∈as,∃j,own j=[a]):mu H (λb=>Ow own b/\b∉as)/\∀Y:Hp,hd (· ∈ as) (hd (λb=>Ow own b/\b∉as) Y)=hd (Ow own) Y:=by
 have c:∀{b x:Addr}{j:Nat},b∈own j->b∉as->x∈own j->x∉as:=λ{b x j}m n i z=>by
  obtain⟨k,g⟩:=l x z;have:=h.dis j k x i (by rw[g];simp);subst this;rw[g]at m i;cases YR.mp m;exact n z
 refine⟨⟨λb z=>h.sole z.1,λb C d f ⟨⟨j,z⟩,n⟩ e=>⟨⟨j,(h.mate z).1 C d f e⟩,c z n ((h.mate z).1 C d f e)⟩,λb x ⟨⟨j,z⟩,n⟩ e=>⟨⟨j,(h.mate z).2 x e⟩,c z n ((h.mate z).2 x e)⟩⟩,λY=>funext λb=>?_⟩;by_cases z:b∈as
 .obtain⟨k,g⟩:=l b z;rw[sU z,sU ⟨k,by rw[g];simp⟩]
 .rw[cX z];by_cases y:Ow own b
  .rw[sU (⟨y,z⟩ : Ow own b/\b∉as),sU y]
  .rw[cX (λw=>y w.1),cX y]
def KF(i:Nat)(S:SO)(r:RA):RS:=λE o=>gS (slot o i) λW c=>r o λas=>S [W] as λa=>match a with|[t]=>E.nx (o.set i (c t))|_=>False
def NW(i:Nat){x y:Str}{S:SO}(G:dL X.prog X.w X.K X.mg X.base k x ps (eg X.K S))(s:QA X es r)(d:dX k X.A:=by exact dX.mono (by assumption) wf)(hg:Gl X x:=by rfl)(hN:n_X X i y:=by exact⟨rfl,rfl,wf,wf⟩)(cr:qV x:=by decide)
 (B:starEach (.Name y p1::es) X.env=(false,eval (.Name y p1) X.env)::starEach es X.env:=by rfl)(bj:qE X af es:=by rfl)(hs:swapsWith (.Call (.Name x p) (.Name y p1::es) [] af) none N.line X.env=pure false:=by rfl):QS X (.Expr (.Call (.Name x p) (.Name y p1::es) [] af) N) (KF i S r):=by
 obtain⟨f,fd,F,b,hm,kp⟩:=G;refine(vL (sH (sp:=gp (eg X.K S)) ⟨f,fd,F.hid,b,hm,kp⟩ d hg (f9 (pv i hN) s B) cr B bj) hs).imp λD O H hP=>?_;obtain⟨own,o,E,h,d,L⟩:=hP;obtain⟨W,c,d,es⟩:=Ib d;obtain⟨l,J,P,M,e3,r0,U⟩:=h.l1 es;refine⟨_,P,tQA.mk h d λZ T as q _ g r1=>?_⟩;have C:=h.same g;obtain⟨hid,er⟩:=EO C (as:=[l]) λa s=>⟨i,by rwa[YR.mp s]⟩;have nl:¬(Ow own l/\l∉[l]):=λz=>z.2 wr;refine⟨_,hid,[l],[W],T,as,_,rfl,by simp,⟨rfl,λj a t I et=>?_⟩,by rw[er];exact r1,q,λG bn m R n Q=>?_⟩
 .cases j with
  |zero=>cases I;cases et;exact⟨J,(cX nl).trans (g _ _ e3),by rw[er];exact r0.same (bU g)⟩
  |succ j=>cases I
 .match bn,m,n with
  |[t],m,n =>
   obtain⟨ys,ey,V⟩:=n.2 0 l t rfl rfl;rw[er]at R;have v:∀{b:Addr}{u:HO},G b=some u->cH (λb=>Ow own b/\b∉[l]) Z G b=some u:=λ{b u}e=>(jX λz=>by rw[Q b z]at e;cases e).trans e;obtain⟨x,ex⟩:=Mv es;obtain⟨h',S'⟩:=C.chg ex (y:=c t) (Y:=cH (λb=>Ow own b/\b∉[l]) Z G) (λb u hb e=>by
    by_cases z:Ow own b
    .rw[wU ⟨z,λy=>hb (by rwa[M])⟩];exact e
    .exact v (cW (R b u ((cX z).trans e))).2) (by
    rw[P,M];refine U _ ys t (v ey) (V.same λb u e=>?_);obtain⟨n1,e⟩:=cW e;rw[cX λz=>by rw[Q b ⟨z,n1⟩]at e;cases e];exact v e)
   exact L.nx own _ O _ m ((bU g).trans S') h'
def HP(i j:Nat)(S:SO)(r:RA):RS:=λE o=>gS (slot o i) λW c=>gS (slot o j) λa d=>r o λas=>S [W,a] as λb=>match b with|[t,u]=>E.nx ((o.set i (c t)).set j (d u))|_=>False
def M6(i j:Nat){x y z:Str}{S:SO}(G:dL X.prog X.w X.K X.mg X.base k x ps (eg X.K S))(s:dX k X.A)(hg:Gl X x)(ha:QA X es r)(jv:i≠j:=by decide)(hN:n_X X i y:=by exact⟨rfl,rfl,wf,wf⟩)(hN2:n_X X j z:=by exact⟨rfl,rfl,wf,wf⟩)(cr:qV x:=by decide)
 (he:starEach (.Name y p1::.Name z p2::es) X.env=(false,eval (.Name y p1) X.env)::starEach (.Name z p2::es) X.env:=by rfl)(he2:starEach (.Name z p2::es) X.env=(false,eval (.Name z p2) X.env)::starEach es X.env:=by rfl)(bj:(backTo af (starEach (.Name z p2::es) X.env)).any (·.1)=false:=by rfl)(hs:swapsWith (.Call (.Name x p) (.Name y p1::.Name z p2::es) [] af) none N.line X.env=pure false:=by rfl):QS X (.Expr (.Call (.Name x p) (.Name y p1::.Name z p2::es) [] af) N) (HP i j S r):=by
 obtain⟨f,fd,F,b,hm,kp⟩:=G;refine(vL (sH (sp:=gp (eg X.K S)) ⟨f,fd,F.hid,b,hm,kp⟩ s hg (f9 (pv i hN) (f9 (pv j hN2) ha he2) he) cr he bj) hs).imp λD O H hP=>?_;obtain⟨own,o,E,h,s,L⟩:=hP;obtain⟨W,c,s,es⟩:=Ib s;obtain⟨us,d,s,P⟩:=Ib s;obtain⟨l,J,e1,e2,e3,r0,sl⟩:=h.l1 es;obtain⟨m,zs,f1,f2,f3,s0,U⟩:=h.l1 P;have lm:l≠m:=λz=>jv (h.dis i j l (by rw[e2];simp) (by rw[f2,z];simp));refine⟨_,e1,_,f1,tQA.mk h s λZ vs as q _ B r1=>?_⟩;have h1:=h.same B;obtain⟨hid,er⟩:=EO h1 (as:=[l,m]) λa ha=>by
  rcases YU.mp ha with z|z
  .exact⟨i,by rwa[z]⟩
  .exact⟨j,by rwa[YR.mp z]⟩
 have nl:¬(Ow own l/\l∉[l,m]):=λz=>z.2 wr;have nm:¬(Ow own m/\m∉[l,m]):=λz=>z.2 wr;refine⟨_,hid,[l,m],[W,us],vs,as,_,rfl,by simp[lm],⟨rfl,λj a t v I=>?_⟩,by rw[er];exact r1,q,λG bn V EE T aE=>?_⟩
 .match j,v,I with
  |0,v,I=>cases v;cases I;exact⟨J,(cX nl).trans (B _ _ e3),by rw[er];exact r0.same (bU B)⟩
  |1,v,I=>cases v;cases I;exact⟨zs,(cX nm).trans (B _ _ f3),by rw[er];exact s0.same (bU B)⟩
  |j+2,v,_=>cases v
 .match bn,V,T with
  |[t,u],V,T =>
   obtain⟨ys,ey,ry⟩:=T.2 0 l t rfl rfl;obtain⟨ws,ew,mN⟩:=T.2 1 m u rfl rfl;rw[er]at EE;have Q:∀{b:Addr}{u:HO},G b=some u->cH (λb=>Ow own b/\b∉[l,m]) Z G b=some u:=λ{b u}e=>(jX λz=>by rw[aE b z]at e;cases e).trans e;generalize hM:cH (λb=>Ow own b/\b∉[l,m]) Z G=M at Q;have C:∀b u,b≠l->b≠m->Z b=some u->M b=some u:=λb u R n2 e=>by
    by_cases z:Ow own b
    .rw[<- hM,wU ⟨z,by simp[R,n2]⟩];exact e
    .exact Q (cW (EE b u ((cX z).trans e))).2
   have g:∀(M':Hp),(∀b,b≠m->M' b=M b)->z0 (hd (· ∈ [l,m]) G) (hd (Ow own) M'):=λM' hM' b u e=>by
    obtain⟨R,e⟩:=cW e;rw[cX (λz=>by rw[aE b ⟨z,R⟩]at e;cases e),hM' b λz=>R (by simp[z])];exact Q e
   obtain⟨x,ex⟩:=Mv es;obtain⟨x2,ex2⟩:=Mv P;obtain⟨h2,S2⟩:=h1.chg ex (y:=c t) (Y:=upd M m (.lst zs)) (λb u hb e=>by
    by_cases z:b=m
    .rw[z,cF];rw[z,B _ _ f3]at e;exact e
    .rw[cA z];exact C b u (λy=>hb (by rw[e2,y];simp)) z e) (by
    rw[e1,e2];exact sl _ ys t ((cA lm).trans (Q ey)) (ry.same (g _ λb n=>cA n)))
   obtain⟨h3,S3⟩:=h2.chg (show(o.set i (c t))[j]?=some x2 by rwa[UT jv]) (y:=d u) (Y:=M) (λb w hb e=>by rw[cA λz=>hb (by rw[f2,z];simp)]at e;exact e) (by
    rw[f1,f2];exact U _ ws u (Q ew) (mN.same (g _ λ_ _=>rfl)))
   exact L.nx own _ O _ V ((bU B).trans (S2.trans S3)) h3
def K7(g:zh)(c:RT)(e:RE)(o:xy):xj->(wb->Prop)->Prop
 |[],q=>q []
 |t::W,q=>∃(N:xj->Prop)(M:Prop),(∀y,N y->K7 g c e o W λa=>q (y::a))/\(M->K7 g c e o W q)/\g t o λd=>c d λb=>sw b (e d λy=>match y with|.l1 a=>N a|_=>False) M
def px(b:RI)(n:Nat)(g:zh)(c:RT)(e:RE):RE:=λo q=>b o λJ=>J.length<=sizeLine/\K7 g c e (replicate n .und++o) J λa=>q (.l2 a)
def abE{o:xy}{f:It}{J:xj}(h1:SR K own Z O o)(wk:ie K f (hd (Ow own) Z) J)(lx:J.length<=sizeLine)(q:K7 g rc re (replicate n .und++o) J λF=>R (.l2 F))(nD:Z D=none)(k:∀Y v x,R x->z0 Z Y->NR K (Ow own) Z Y v x->Q v Y) :
  ∃d:Nat->Nat->Ζ->Hp->Prop,(∃m,d 0 m [] (upd Z D (.lst [])))/\∀i m ys l,d i m ys l ->
   (f.stop i l/\Q (.ref D) l)\/(f.go i l/\∀x Y,f.yld i l x Y->∀r:L2.St,r.length=n->gd (eI K n g) x (r++O) Y λC H2=>∃cy:L2.St,cy.length=n/\C=cy++O/\gc (tQT K rc) C H2 λb T =>
    match b with
    |true=>tM (tQ K re) C T λy H4=>ys.length<sizeLine/\H4 D=some (.lst ys)/\∃m',m'<m/\d (i+1) m' (ys++[y]) (upd H4 D (.lst (ys++[y])))
    |false=>∃m',m'<m/\d (i+1) m' ys T):=by
 generalize hO:replicate n OT.und++o=ob at q;refine⟨λi m ys l=>∃(h:Ψ)(A:wb),ys=h.map V.ref/\l D=some (.lst ys)/\z0 Z l/\(D::h).Nodup/\(∀b∈h,Z b=none)/\h.length=A.length/\(∀(i:Nat)b W,h[i]?=some b->A[i]?=some W->∃J,l b=some (.lst J)/\bV K (hd (λb=>Ow own b\/b∈D::h) l) J W)/\ys.length<=i/\i<=J.length/\m=J.length-i/\K7 g rc re ob (J.drop i) λF=>R (.l2 (A++F)),⟨_,[],[],rfl,cF,z0.upd nD,by simp,λ_ z=>(nomatch z),rfl,(λi b W e=>by cases e),aG _,aZ _,rfl,q⟩,?_⟩;rintro i m ys l ⟨h,A,rfl,eD,I,nd,nb,bl,X,il,ix,rfl,w⟩;have nA:∀a∈D::h,Z a=none:=λa G=>by
  rcases YU.mp G with z|z
  .rw[z];exact nD
  .exact nb a z
 have eA:∀a∈D::h,∃ys,l a=some (.lst ys):=λa G=>by
  rcases YU.mp G with z|z
  .exact⟨_,z ▸ eD⟩
  .obtain⟨j,e⟩:=aV z;have lj:=(ao.mp e).1;obtain⟨P,s,_⟩:=X j a _ e (aj (aR lj (WG bl)));exact⟨P,s⟩
 have hn:∀b,Ow own b\/b∈D::h->l b≠none:=λb z=>z.elim (λz=>((h1.same I).sole z).ne) λe z=>by obtain⟨ys,ey⟩:=eA b e;rw[ey]at z;cases z
 have SD:z0 (hd (Ow own) Z) (hd (λb=>Ow own b\/b∈D::h) l):=jG (λb z=>z.imp id (nA b)) I;obtain⟨w1,w2⟩:=wk (λb=>Ow own b\/b∈D::h) l i hn SD;by_cases hi:i<J.length
 .right;obtain⟨go,yl⟩:=w2 _ (aj hi);rw[ka hi]at w;obtain⟨N,M,hN,hM,w⟩:=w;refine⟨go,λx H2 y r hp=>?_⟩;obtain⟨L,rx⟩:=yl x H2 y;have eO:(λb=>Ow own b\/b∈D::h)=Ow (ownL2 n o.length own (D::h)):=funext λb=>propext Ow.ownL2.symm;have hb:SR K (ownL2 n o.length own (D::h)) H2 (r++O) ob:=by
   have:=h1.blockL (I.trans L) nA (λa G=>let⟨ys,e⟩:=eA a G;⟨ys,L _ _ e⟩) r;rw[hp,hO]at this;exact this
  rw[eO]at rx X;refine⟨_,⟨ownL2 n o.length own (D::h),ob,_,_,hb,rx,w,λfS σ3 o3 q3 i5 h3=>?_⟩,λ_ _ z=>z⟩;obtain⟨cy,dA,rfl⟩:=Wz hp i5;have e3:fS=ownL2 n o.length own (D::h):=funext λj=>by
   rcases i5.1 j with e|⟨t,s⟩
   .exact e
   .rw[s];unfold ownL2;rw[ZY t]
  subst e3;refine⟨cy,dA,rfl,_,tQT.mk h3 q3 λT b q4 U=>?_,λ_ _ z=>z⟩;have q4:sw b (re o3 λy=>match y with|.l1 F=>N F|_=>False) M:=q4;cases b with
  |false=>exact⟨J.length-(i+1),by lia,h,A,rfl,U _ _ (L _ _ eD),I.trans (L.trans U),nd,nb,bl,λj b W t s=>by
    obtain⟨P,ez,rz⟩:=X j b W t s;rw[eO];exact⟨P,U _ _ (L _ _ ez),rz.same (bU (L.trans U))⟩,by exact aL il (X9 _ _),by exact hi,rfl,hM q4⟩
  |true =>
   refine⟨_,⟨_,_,_,h3.same U,q4,λH4 v y q5 E4 r4=>?_⟩,λ_ _ z=>z⟩
   match y,q5,r4 with
   |.l1 F,q5,r4 =>
    obtain⟨B,nB,p,P,ev,rfl,ep,rp⟩:=r4;cases ev;have np:T p=none:=nB p wr;have pn:∀{a:Addr}{u:HO},T a=some u->a≠p:=λe z=>by rw[z,np]at e;cases e
    have E:z0 l T:=L.trans U;have pD:D≠p:=pn (E _ _ eD);have pb:p∉h:=λz=>by
     obtain⟨ys,ey⟩:=eA p (aJ _ z);exact pn (E _ _ ey) rfl
    have inD:∀(H:Hp)(u:HO),hd (λb=>Ow own b\/b∈D::(h++[p])) (upd H D u)=hd (λb=>Ow own b\/b∈D::(h++[p])) H:=λH u=>Im (S:=λb=>Ow own b\/b∈D::(h++[p])) (.inr wr);refine⟨by lia,E4 _ _ (E _ _ eD),J.length-(i+1),by lia,h++[p],A++[F],by rw[bf];rfl,cF,λb u e=>?_,?_,λb hb=>?_,by simp[bl],λj b W t s=>?_,by rw[aA,length_singleton];exact succ_le_succ il,by exact hi,rfl,?_⟩
    .rw[cA λz=>by rw[z,nD]at e;cases e];exact E4 _ _ (E _ _ (I _ _ e))
    .rw[<- cons_append];exact List.nodup_append.mpr ⟨nd,by simp,λa G c hc z=>by
      rw[YR.mp hc]at z;rcases YU.mp G with y|y
      .exact pD (y.symm.trans z)
      .exact pb (z ▸ y)⟩
    .rcases Y1.mp hb with z|z
     .exact nb b z
     .rw[YR.mp z];exact(I.trans E).free np
    .rw[inD];by_cases hj:j<h.length
     .rw[aF hj]at t;rw[aF (aR hj (WG bl))]at s;obtain⟨P,ez,rz⟩:=X j b W t s;have bD:b≠D:=λz=>(List.nodup_cons.mp nd).1 (z ▸ aC t);refine⟨P,by rw[cA bD];exact E4 _ _ (E _ _ ez),rz.same ?_⟩;rw[<- eO];exact jG (λc z=>by
       rcases z with z|z
       .exact .inl (.inl z)
       .rw[<- cons_append]at z;rcases Y1.mp z with y|y
        .exact .inl (.inr y)
        .rw[YR.mp y];exact .inr (E.free np)) (E.trans E4)
     .rw[aD (VS hj)]at t;rw[aD wp]at s;have j0:j-h.length=0:=by
       have:=(ao.mp t).1;simp at this;omega
      rw[j0]at t;rw[show j-A.length=0 by lia]at s;cases t;cases s;refine⟨_,by rw[cA (Ne.symm pD)];exact ep,rp.same (jG (λc z=>.inl ?_) λ_ _ z=>z)⟩;rcases z with z|z
      .exact .inl (Ow.ownL2.mpr (.inl z))
      .rw[<- cons_append]at z;rcases Y1.mp z with y|y
       .exact .inl (Ow.ownL2.mpr (.inr y))
       .exact .inr y
    .have:=hN _ q5;simp only[WV,List.singleton_append];exact this
 .left;have:i=J.length:=by lia
  refine⟨w1 this,?_⟩;rw[JS (VS hi)]at w;have w:R (.l2 (A++[])):=w;rw[append_nil]at w;exact k l _ _ w I ⟨D::h,nA,D,h,rfl,rfl,nd,eD,bl,X⟩
def ZR(h:tQ K (px ri n g rc re) O H Q):uP (mz K ri) n (gd (eI K n g)) (gc (tQT K rc)) (tM (tQ K re)) O H Q:=by
 obtain⟨own,o,R,h,f,k⟩:=h;exact⟨own,o,_,h,f,λZ a J q b c D e=>abE (h.same b) c q.1 q.2 e λY v x d E n=>k Y v x d (b.trans E) (n.back b)⟩
def abN(k:Scope)(a j:Φ)(d:Str)(p:QI X tg iter ri)(q:∀{C b c f e},QG (X.compGC j I d C b c f e) 1 tg g)(l:∀{C b c f e},fA (X.compGC j I d C b c f e) aS rc)(r:∀{C b c f e},QE (X.compGC j I d C b c f e) be re)
 (w:X.env.scope=k:=by rfl)(v:X.N=a:=by rfl)(s:X.calm:=by rfl)(o:I.kind=.function:=by rfl)(u:∀n i,cellsFrom n I.names i=(d,n)::i:=by intro _ _;rfl)(t:∀h,pushCells h I.names=h.push { cls:=.type "cell",data:=.cell none }:=by intro _;rfl)(h:(∀y∈I.names,y.2=.cell->y.1=d)/\mx k I a j [d]:=by decide +kernel)(m:zg X iter:=by intro _;rfl):QE X (.ListComp be [⟨tg,iter,aS,0⟩] I N) (px ri 1 g rc re) :=
 (D2 (gt:=eI X.K 1 g) (tc:=tQT X.K rc) (te:=tQ X.K re) k a j d p q l r w v s o u t h m).imp λ_ _ _=>ZR
def UA{j k:Pos}(i:Scope)(a f J:Φ)(s:QI X tg iter ri)(t:∀{C b c e d},QG (X.compG f I J C b c e d) J.length tg g)(l:∀{C b c e d},fA (X.compG f I J C b c e d) aS rc)(u:∀{C b c e d},QE (X.compG f I J C b c e d) be re)(z:PG X (.Name y0 j) (Cj i0))
 (F:X.env.scope=i:=by rfl)(B:X.N=a:=by rfl)(w:X.calm:=by rfl)(r:I.kind=.function:=by rfl)(h:CK i I a f J:=by decide +kernel)(A:swapsWith (.ListComp be [⟨tg,iter,aS,0⟩] I N) (some (.Name y0 j)) k.line X.env=pure true:=by rfl)(m:zg X iter:=by intro _;rfl) :
  QS X (.Assign [.Name y0 j] (.ListComp be [⟨tg,iter,aS,0⟩] I N) k) (oz i0 (px ri J.length g rc re)):=(p9 (gt:=eI X.K J.length g) (tc:=tQT X.K rc) (te:=tQ X.K re) i a f J s t l u z F B w r h A m).imp λD O H ⟨own,o,E,h,p,L⟩=>ZR ⟨own,o,_,h,p,λY v y q S n=>by
 obtain⟨G,x,M⟩:=h.putA S n i0;exact L.nx G Y _ _ q M x⟩
theorem Qe{α:Type}(h:α->T)(f:α->xj){c:RT}{e:RE}{o:xy} : ∀(l:List α){q:wb->Prop},(∀a∈l,∀(N:xj->Prop)(M:Prop),N (f a)->g (h a) o λd=>c d λb=>sw b (e d λy=>match y with|.l1 i=>N i|_=>False) M)->q (l.map f)->K7 g c e o (l.map h) q
 |[],_,_,k=>k
 |a::l,q,st,k=>⟨λy=>y=f a,False,λy z=>Qe h f l (λa j=>st a (aJ _ j)) (z ▸ k),False.elim,st a (aO ..) (λy=>y=f a) False rfl⟩
def Vm{c:RT}{e:RE}{o:xy}{q:wb->Prop}(f:Nat->xj)(n:Nat)(st:∀k,k<n->∀(N:xj->Prop)(M:Prop),N (f k)->g (.int (k:Nat)) o λd=>c d λb=>sw b (e d λy=>match y with|.l1 h=>N h|_=>False) M)(k:q ((range n).map f)):K7 g c e o (rng 0 n) q:=by
 refine Qe (λk:Nat=>.int (0+k)) f (range n) (λa i N M j=>?_) k;have:=st a (List.mem_range.mp i) N M j;show g (.int (0+((a:Nat):Int))) o _;rw[show(0:Int)+((a:Nat):Int)=((a:Nat):Int)by exact Int.zero_add _];exact this
abbrev Ks(f:Β):PyData:=.tuple [.int f.1,.int f.2]
abbrev k5(f:Β):T:=.tup [.int f.1,.int f.2]
def _i(K:Frag):V->Ζ->Hp->VK->Prop:=λx c H Q=>∃(l:Addr)(b:V)(J:Ζ)(a:Γ)(f:Β)(j:Nat),x=.ref l/\c=[b]/\H l=some (.lst J)/\J.length=a.length/\(∀(i:Nat)x g,J[i]?=some x->a[i]?=some g->iQ K H x (Ks g))/\iQ K H b (Ks f)/\J.length<=sizeLine/\a[j]?=some f/\(∀i g,i<j->a[i]?=some g->g≠f)/\Q (.int (j:Nat)) H
open Classical in
def oD(h:Heap)(f:Β)(v:Value):Bool:=decide (∃as,Reads h v (Ks f) as)
open Classical in
def Sw{h:Heap}{v:Value}{g f:Β}(r:Reads h v (Ks g) as):oD h f v=(decide (g.1=f.1)&&decide (g.2=f.2)):=by
 unfold oD;by_cases e:g=f
 .subst e;rw[Zs ⟨as,r⟩,Zs rfl,Zs rfl];rfl
 .have i:¬∃as,Reads h v (Ks f) as:=λ⟨j,z⟩=>e (by
   have:=SeqAt.Reads.unique _ _ _ _ _ rfl r z;injection this with this;injection this with b a;injection a with a;injection b with b;injection a with a;exact Prod.ext b a)
  rw[Zp i];by_cases d:g.1=f.1
  .by_cases c:g.2=f.2
   .exact absurd (Prod.ext d c) e
   .rw[Zp c,Bool.and_false]
  .rw[Zp d,Bool.false_and]
def abB(hu:X.A.units+64<cLine):mj X "list.index" (_i X.K):=by
 intro U s O H x vs v us Q I M N h;obtain⟨l,b,J,w,f,j,rfl,rfl,Y,lf,fl,Z,T,G,P,q⟩:=h;cases M;obtain⟨u,rfl,p⟩:=N.one;obtain⟨bs,rb⟩:=I.readsK Z p;obtain⟨z,a,n,r,kB,e⟩:=I.lstM Y;have lr:=r.length;have t:∀(i:Nat)(o:i<a.toArray.size),∃g as,w[i]?=some g/\Reads s.heap a.toArray[i] (Ks g) as:=λi o=>by
  rw[aX]at o;have E:J[i]?=some (J[i]' wp):=aj _;have L:w[i]?=some (w[i]' wp):=aj _;obtain⟨u,eu,p⟩:=r.get E;obtain⟨as,ra⟩:=I.readsK (fl i _ _ E L) p;refine⟨_,as,L,?_⟩;rwa[List.getElem_toArray,(ao.mp eu).2]
 have lj:=(ao.mp G).1;have B:j<a.toArray.size:=by rw[aX];lia
 rw[sizeLine_eq]at T;refine call_meets F.slot_list_index ⟨_,e,rfl⟩ F.entry_list_index (F.args_list_index_2 _ _) (SeqAt.list_indexAt l a.toArray n _ _ _ (oD s.heap f) j B wp ?_ λm W S=>?_) ⟨e,λy V=>?_,⟨.int _,H,I.tok _,⟨_,rfl⟩,q⟩⟩
 .obtain⟨g,as,k,c⟩:=t j B;rw[G]at k;cases k;rw[Sw c,Zs rfl,Zs rfl];rfl
 .obtain⟨g,as,k,c⟩:=t m W;have R:=P m g S k;rw[Sw c];by_cases D:g.1=f.1
  .by_cases C:g.2=f.2
   .exact absurd (Prod.ext D C) R
   .rw[Zp C,Bool.and_false]
  .rw[Zp D,Bool.false_and]
 .obtain⟨i,o,ei⟩:=Array.getElem_of_mem V;obtain⟨g,as,k,c⟩:=t i o;rw[<- ei,Sw c,<- Db];exact SeqAt.eqAt_reads _ _ _ _ _ _ _ _ c rb rfl rfl (by
   have d:(Ks g).depth<=3:=TZ rfl;have m:=min_le_left (Ks g).depth (Ks f).depth;show X.A.units+1+min (Ks g).depth (Ks f).depth<cLine;lia)
def KU(a:RE)(r:RA):RE:=λo q=>a o λx=>match frz x with
 |.lst W=>r o λc=>∃(b:Γ)(f:Β)(j:Nat),W=b.map k5/\c=[k5 f]/\b.length<=sizeLine/\b[j]?=some f/\(∀i g,i<j->b[i]?=some g->g≠f)/\q (.fz (.int (j:Nat)))
 |_=>False
def OS{o e:Expr}{n:Pos}(D:X.A.units+64<cLine)(K:QE X o ra)(P:QA X [e] r)(N:attributeBase o "index" X.env (eval o X.env)=eval o X.env:=by rfl)
 (M:zk X af e:=by rfl)
 (L:ze n af:=by rfl)(E:qS X e []:=by rfl)(I:qE X af []:=by rfl) :
  QE X (.Call (.Attribute o "index" n) [e] [] af) (KU ra r):=by
 refine(ph PySem.F.plainAttrs_list PySem.F.slot_list_index PySem.F.type_list_index (abB D) K.mono P.mono N M L E I).imp λO H Q S=>?_;obtain⟨own,o,R,h,G,k⟩:=S;refine⟨_,tQ.mk h G λZ v x q t d=>?_,λ_ _ z=>z⟩;cases a:frz x with
 |lst W =>
  rw[a]at q d;obtain⟨p,J,rfl,e,b⟩:=d.lstI;refine⟨.inl ⟨rfl,_,SqL.of (dW _ _ e)⟩,_,tQA.mk (h.same t) q λs Y us q2 _ c B=>?_,λ_ _ z=>z⟩;obtain⟨l,f,j,rfl,rfl,lf,T,C,q3⟩:=q2;obtain⟨y,rfl,u⟩:=B.one;have V:z0 (hd (Ow own) Z) s:=(bU c).trans dW;refine⟨p,y,J,l,f,j,rfl,rfl,c _ _ (dW _ _ e),by rw[b.len,ak],λi x g a U=>?_,(u.shows _ rfl rfl).same dW,by rw[b.len,ak];exact lf,T,C,k s _ _ q3 (t.trans c) (NR.fz (.int _))⟩;obtain⟨v,m,w⟩:=b.at_ (show(l.map k5)[i]?=some (k5 g)by rw[aq,U];rfl);rw[a]at m;cases m;exact(w.shows _ rfl rfl).same V
 |_=>rw[a]at q;exact q.elim
theorem bV.strs{K:Frag}{F:Hp} : ∀{J:Ζ}{ys:Φ},bV K F J (ys.map T.str)->J=ys.map V.str
 |_,[],h=>by cases h;rfl
 |_,y::ys,h=>by
  cases h with
  |cons a b =>
   cases a;rw[bV.strs b];rfl
def Go(a:RE)(r:RA):RE:=λo q=>a o λx=>match frz x with
 |.str s=>r o λb=>∃ys:Φ,b=[.lst (ys.map T.str)]/\(ys.map (·.length)).sum+ys.length*s.length<=16777216/\q (.fz (.str (Txt.join s ys)))
 |_=>False
def VO{o e:Expr}{c:Pos}(t:QE X o ra)(A:QA X [e] r)(z:attributeBase o "join" X.env (eval o X.env)=eval o X.env:=by rfl)
 (w:zk X af e:=by rfl)
 (u:ze c af:=by rfl)(l:qS X e []:=by rfl)(n:qE X af []:=by rfl) :
  QE X (.Call (.Attribute o "join" c) [e] [] af) (Go ra r):=by
 refine(OB PySem.F.slot_str_join PySem.F.type_str_join Vi t A z w u l n).imp λO H Q B=>?_;obtain⟨own,o,R,h,m,k⟩:=B;refine tQ.mk h m λZ v x q d a=>?_;cases b:frz x with
 |str s =>
  rw[b]at q a;cases a;refine⟨⟨s,rfl⟩,tQA.mk (h.same d) q λC E G q2 _ D i=>?_⟩;obtain⟨ys,rfl,j,q3⟩:=q2;obtain⟨y,rfl,f⟩:=i.one;obtain⟨p,J,rfl,e,g⟩:=f.lstI;exact⟨s,p,ys,rfl,rfl,g.strs ▸ (cW e).2,j,k C _ _ q3 (d.trans D) (NR.fz (.str _))⟩
 |_=>rw[b]at q;exact q.elim
def notStar:Expr->Bool
 |.Starred ..=>false
 |_=>true
def P9{e:Expr}{env:Env}(h:notStar e):starEach (e::es) env=(false,eval e env)::starEach es env:=by
 cases e<;>first|rfl|cases h
structure fD(X:Cx)(e:Expr)(r:RE):Prop where
 out:QE X e r
structure kq(X:Cx)(es:xw)(r:RA):Prop where
 out:QA X es r
def HF{e:Expr}{r:RE}(h:QE X e r):fD X e r:=⟨h⟩
def ZJ{i j N} : fD X (.Constant (.int i) j N) (rC (.int i)):=⟨bA⟩
def ME(i:Nat){x:Str}(b:n_X X i x:=by exact⟨rfl,rfl,wf,wf⟩):fD X (.Name x N) (gE i):=⟨qv i b⟩
def Qb{op:Operator}{g:zn}{b:Expr}(c:GO X (binaryOp op) g)(e:fD X a ra)(d:fD X b rb):fD X (.BinOp a op b N) (f4 g ra rb):=⟨bL c e.out d.out⟩
def v9:kq X [] og:=⟨bC⟩
def iB{e:Expr}{a:RE}(d:fD X e a)(b:kq X es r)(c:notStar e:=by rfl):kq X (e::es) (DB a r):=⟨bx d.out b.out (P9 c)⟩
def Fi(h:kq X es r)(a:es.length<=sizeLine:=by decide):fD X (.Tuple es k N) (vk r):=⟨dh h.out a⟩
def Zt(h:kq X es r)(a:es.length<=sizeLine:=by decide):fD X (.List es N) (BF r):=⟨eF h.out a⟩
def KM:zn
 |.int i,.int j,q=>agC i j/\q (.fz (.int (i*j)))
 |_,_,_=>False
def Zu:GO X (binaryOp .Mult) KM:=Pv.imp λx y H Q d=>by
 obtain⟨S,t,u,R,_,c,b,a,k⟩:=d;cases c<;>try exact a.elim
 cases b<;>try exact a.elim
 exact⟨_,_,rfl,rfl,a.1,k H _ _ a.2 (.refl _) (NR.fz (.int _))⟩
def HC(n:Nat)(a:zt):zh
 |.lst W,o,q=>W.length=n/\a W o q
 |_,_,_=>False
def RC{m:Nat}{c:zt}(hc:X.calm)(h:ko X m es c)(d:(assignEach es X.env).length=n:=by rfl)(g:zi X es:=by rfl):QG X m (.Tuple es k N) (HC n c):=(_a hc h d g).imp λv O H Q f=>by
 obtain⟨own,o,t,R,h,r,b,k⟩:=f;cases t<;>try exact b.elim
 obtain⟨a,J,rfl,e,r⟩:=r.lstI;exact⟨a,J,rfl,SqL.of (dW _ _ e),r.len.trans b.1,own,o,_,R,h,r,b.2,k⟩
section
variable{a b c d e f x y:RS}{E:DT}{o:xy}
def F5(J:xy->Prop)(k:∀d,J d->y E d)(h:∀Y:xy->Prop,(∀d,J d->Y d)->oO a (oO b (oO c (oO x (λ_=>Y)))) E o):oO a (oO b (oO c (oO x y))) E o:=h (y E) k
def F4(J:xy->Prop)(k:∀g,J g->y E g)(h:∀Y:xy->Prop,(∀g,J g->Y g)->oO a (oO b (oO c (oO d (oO e (oO f (oO x (λ_=>Y))))))) E o):oO a (oO b (oO c (oO d (oO e (oO f (oO x y)))))) E o:=h (y E) k
end
def tz(a:Hp->V->Prop):Prop:=∀F b u,z0 F b->a F u->a b u
section
variable{K:Frag}{own:Nat->Ψ}{H:Hp}{O:L2.St}{o:xy}
def SR.gh(h:SR K own H O o){i:Nat}{a:Hp->V->Prop}{t:T}(e:slot o i=.gh a t):∃u,tz a/\O[i]?=some (some u)/\a (hd (Ow own) H) u/\Rep K (hd (Ow own) H) u t:=by
 obtain⟨u,c,_,st,w,b,p,r⟩:=h.val e (by intro z;cases z);cases b;exact⟨u,st,c,p,r⟩
def SR.toGh(h:SR K own H O o){i:Nat}{c:Hp->V->Prop}(st:tz c)(e:slot o i=.fz t)(p:∀u,O[i]?=some (some u)->c (hd (Ow own) H) u):SR K own H O (o.set i (.gh c t)):=by
 have d:=iJ e (by intro z;cases z);have k:=(ao.mp d).1;refine⟨by rw[VT,h.len],λj y b=>?_,λj g=>h.out j (by rwa[VT]at g),h.dis⟩;by_cases z:j=i
 .subst z;rw[Tx k]at b;cases b;obtain⟨u,f,r⟩:=h.get d;obtain⟨a,_⟩:=h.sl j _ d;rw[f];exact⟨a,st,u,rfl,p u f,r⟩
 .rw[UT (Ne.symm z)]at b;exact h.sl j y b
end
def Nt(F G:Hp):Prop:=∀b u,(∀t,u≠HO.tbl t)->F b=some u->G b=some u
variable{a:Addr}{φ:T->Hp->V->Prop}
section
variable{K:Frag}{F G:Hp}
def Nt.rd(e:Nt F G)(n:∀t,u≠HO.tbl t)(h:Rd F a u):Rd G a u:=h.imp (e _ _ n) λb=>by obtain⟨o,r⟩:=b;exact⟨o,e _ _ (λ_ z=>(nomatch z)) r⟩
def Nt.tup(e:Nt F G){a:Addr}{J:Ζ}(h:SqT K F a J):SqT K G a J:=h.imp (e.rd λ_ z=>(nomatch z)) id
def Nt.seq(e:Nt F G)(h:SqL K F a J):SqL K G a J:=h.imp (e.rd λ_ z=>(nomatch z)) id
def Nt.l(e:Nt F G)(h:F a=some (.lst J)):G a=some (.lst J):=e _ _ (λ_ z=>(nomatch z)) h
def Nt.d(e:Nt F G){l:xF}(h:Rd F a (.dK l)):Rd G a (.dK l):=e.rd (λ_ z=>(nomatch z)) h
def Nt.i(e:Nt F G){C d:Addr}{l:xn}(h:F a=some (.ins C d l)):G a=some (.ins C d l):=e _ _ (λ_ z=>(nomatch z)) h
def Nt.o(e:Nt F G){x:Addr}(h:F a=some (.own x)):G a=some (.own x):=e _ _ (λ_ z=>(nomatch z)) h
def Nt.e(e:Nt F G){a C:Addr}{d:Ξ}(h:F a=some (XO a C d)):G a=some (XO a C d):=e _ _ (λ_ z=>(nomatch z)) h
def Nt.x(e:Nt F G):∀{d:Ξ}{l:xn},aaU F d l->aaU G d l
 |none,_,x=>x
 |some _,_,x=>e _ _ (λ_ z=>(nomatch z)) x
mutual
theorem Rep.nt(e:Nt F G):∀{x:V}{t:T},Rep K F x t->Rep K G x t
 |_,_,.any v=>.any v
 |_,_,.non=>.non
 |_,_,.bl b=>.bl b
 |_,_,.int i=>.int i
 |_,_,.str s=>.str s
 |_,_,.val v=>.val v
 |_,_,.tup s h=>.tup (e.tup s) (bV.nt e h)
 |_,_,.lst s h=>.lst (e.l s) (bV.nt e h)
 |_,_,.scr s h=>.scr (e.seq s) (bV.nt e h)
 |_,_,.dct s l h=>.dct (e.d s) l (bV.nt e h)
 |_,_,.ins s d l h=>.ins (e.i s) (e.o d) l (bV.nt e h)
 |_,_,.exc s x l h=>.exc (e.e s) (e.x x) l (bV.nt e h)
theorem bV.nt(e:Nt F G):∀{J:Ζ}{W:xj},bV K F J W->bV K G J W
 |_,_,.nil=>.nil
 |_,_,.cons h t=>.cons (Rep.nt e h) (bV.nt e t)
end
def SR.leap{c:L2.St}{o d:xy}(h:SR K own H O o)(e:Nt H Y)(l:d.length=c.length)(f:∀(i:Nat)x,d[i]?=some x->x=.und\/∃t,x=.fz t/\(o[i]?=some x/\c[i]?=O[i]?\/∃u,c[i]?=some (some u)/\Rep K Y u t)):SR K (λ_=>[]) Y c d:=by
 refine⟨l,λi x m=>?_,λ_ _ _ z=>(nomatch z),λi j a z=>(nomatch z)⟩;rw[Bt];rcases f i x m with rfl|⟨t,rfl,⟨k,es⟩|⟨u,es,r⟩⟩
 .rfl
 .obtain⟨_,u,g,r⟩:=h.sl i _ k;rw[es];exact⟨rfl,u,g,Rep.nt (λb w n z=>e b w n (cW z).2) r⟩
 .rw[es];exact⟨rfl,u,rfl,r⟩
end
def FA(φ:T->Hp->V->Prop):Prop:=∀t F a u,z0 F a->φ t F u->φ t a u
def gs(K:Frag)(φ:T->Hp->V->Prop)(j:Nat)(S:ST):Sp:=λa H Q _=>∃u t W R,a[j]?=some u/\W[j]?=some t/\φ t H u/\bV K H a W/\S W R/\∀Y v x,R x->z0 H Y->NR K (λ_=>False) H Y v x->Q v Y
abbrev hE(P:Program)(w:World)(K:Frag)(mg:Str->Ω)(base:Heap)(φ:T->Hp->V->Prop)(k:Nat)(x:Str)(ps:Φ)(S:ST):Prop:=dL P w K mg base k x ps (gs K φ 0 S)
def Qi{G:Hp}{o:xy}{x:OT}(l:SR K own Z O o)(g:z0 H Z)(j:∀Y v x,R x->z0 H Y->NR K (Ow own) H Y v x->Q v Y)(h:R x)(E:z0 (hd (Ow own) Z) G)(n:NR K (λ_=>False) (hd (Ow own) Z) G v x)(d:∀b,Ow own b->G b=none):Q v (cH (Ow own) Z G):=by
 have k:z0 Z (cH (Ow own) Z G):=λb u e=>by
  by_cases z:Ow own b
  .rw[wU z];exact e
  .rw[jX z];exact E b u ((cX z).trans e)
 have f:z0 G (cH (Ow own) Z G):=λb u e=>by rw[jX λz=>by rw[d b z]at e;cases e];exact e
 refine j _ v x h (g.trans k) (NR.back (H:=Z) ?_ g);obtain⟨B,i,s⟩:=n;have out:∀a∈B,¬Ow own a:=λa c z=>(s.sole c).ne (d a z);refine⟨B,λa c=>by have:=i a c;rwa[cX (out a c)]at this,s.same (jG (λb z=>?_) f) f⟩;rcases z with z|z
 .exact .inr (d b z)
 .exact .inl (.inr z)
def qs(i:Nat):RE:=λo q=>match slot o i with|.gh _ t=>q (.fz t)|_=>False
variable{x:Str}{e:Expr}
def iq(i:Nat)(d:n_X X i x:=by exact⟨rfl,rfl,wf,wf⟩):QE X (.Name x N) (qs i):=(pv i d).imp λO H Q c=>by
 obtain⟨own,o,R,h,a,k⟩:=c;unfold qs at a;cases e:slot o i with
 |gh φ t =>
  rw[e]at a;obtain⟨u,_,q,_,r⟩:=h.gh e;exact⟨u,q,k H u _ a (.refl _) (NR.fz r)⟩
 |_=>rw[e]at a;exact a.elim
def D4(i:Nat)(φ:T->Hp->V->Prop)(S:ST)(r:RA):RE:=λo q=>match slot o i with|.gh a t=>a=φ t/\r o λW=>S (t::W) q|_=>False
def zL{d:Pos}(i:Nat)(G:hE X.prog X.w X.K X.mg X.base φ k x ps S)(C:dX k X.A)(I:Gl X x)(J:QA X es r)(M:n_X X i y0:=by exact⟨rfl,rfl,wf,wf⟩)(T:qV x:=by decide)
 (g:starEach (.Name y0 d::es) X.env=(false,eval (.Name y0 d) X.env)::starEach es X.env:=by rfl)(U:qE X N es:=by rfl):QE X (.Call (.Name x p) (.Name y0 d::es) [] N) (D4 i φ S r):=by
 obtain⟨f,fd,F,b,D,y⟩:=G;refine(sH (sp:=gp (gs X.K φ 0 S)) ⟨f,fd,F.hid,b,D,y⟩ C I (f9 (pv i M) J g) T g U).imp λO H Q L=>?_;obtain⟨own,o,R,h,a,z⟩:=L;unfold D4 at a;cases e:slot o i with
 |gh ψ t =>
  rw[e]at a;obtain⟨rfl,a⟩:=a;obtain⟨u,st,P,s,l⟩:=h.gh e;refine⟨u,P,tQA.mk h a λZ vs W q _ c m=>⟨Ow own,(h.same c).hid,u,t,t::W,R,rfl,rfl,st _ _ _ (bU c) s,.cons (l.same (bU c)) m,q,λG v x j E n Y=>Qi (h.same c) c z j E n Y⟩⟩
 |_=>rw[e]at a;exact a.elim
def i4(K:Frag)(frees:Ζ)(S:ST):Sp:=λa H Q E=>a.length=1/\am K S (frees++a) H Q E
def Pp(i:Nat)(a:Hp->V->Prop)(f:Addr)(b:xj)(S:ST)(r:RA):RE:=λo q=>slot o i=.gh a (.val (.ref f))/\r o λW=>S (b++W) q
def abW{frees:Ζ}{c:xj}{g:Hp->V->Prop}(i:Nat)(d:∀F u,g F u->bV X.K F frees c)(G:ij X.prog X.w X.K X.mg X.base k f ps (i4 X.K frees S))(C:dX k X.A)(J:QA X [e] r)(L:n_X X i x:=by exact⟨rfl,rfl,wf,wf⟩)
 (I:qS X e []:=by rfl)(Y:qE X N []:=by rfl):QE X (.Call (.Name x p) [e] [] N) (Pp i g f c S r):=by
 obtain⟨fd,y,F,b,P,M⟩:=G;refine(_A (sp:=gp (i4 X.K frees S)) ⟨fd,y,F.hid,b,P,M⟩ C (pv i L) J I Y).imp λO H Q ⟨own,o,R,h,⟨T,D⟩,z⟩=>?_;obtain⟨u,st,U,t,s⟩:=h.gh T;cases s;exact⟨_,U,rfl,tQA.mk h D λZ vs W q l a j=>⟨Ow own,(h.same a).hid,by rw[j.len,l];rfl,c++W,R,(d _ _ (st _ _ _ (bU a) t)).app j,q,λG v x m E n aE=>Qi (h.same a) a z m E n aE⟩⟩
def afc.ok{i:Addr}(h:afc K mg x st ps i)
 (j:∀f fd c,Fun K x x st f fd->fd.code=.ref c->codeHdIn K c i=true->bW P w K mg base ab k f fd ps sp):dL P w K mg base k x ps sp:=by
 obtain⟨f,fd,c,a,b,d,e,g⟩:=h;exact⟨f,fd,j f fd c a e g,.all b,d,a.kp⟩
def bW.ex{sp:α->Sp}(F:∀a,bW P w K mg base ab k f fd ps (sp a)):bW P w K mg base ab k f fd ps λc H Q E=>∃a,sp a c H Q E :=
 ⟨λc H Q E e=>by obtain⟨a,h⟩:=e;exact(F a).len c H Q E h,λA b s H d g c Q E i l j r e=>by obtain⟨a,h⟩:=e;exact(F a).run A b s H d g c Q E i l j r h⟩
def bW.andL{c:Prop}(F:c->bW P w K mg base ab k f fd ps sp):bW P w K mg base ab k f fd ps λb H Q E=>c/\sp b H Q E :=
 ⟨λb H Q E h=>(F h.1).len b H Q E h.2,λA a s H d e b Q E g j i r h=>(F h.1).run A a s H d e b Q E g j i r h.2⟩
def Fun.okC{N:Φ}{c:Addr}(F:Fun K x qual st f fd)(e:fd.code=.ref c)(S:bK N ps (bG st))(d:∀b H Q E,sp b H Q E->b.length=ps.length)
 (l:∀(A:Around)(a:xt)(s:Shared)(H:Hp)(b:Ζ)(Q:VK)(E:XK),dX k (A.deeper (envOfC qual (bG st) s.zs f (.ref c)))->sp b H Q E ->
   ∃t,PSs (MK ab P w K mg base N qual (bG st) f (.ref c) A a s H E).nox (dZ st) t/\t { nx:=λ_ Y=>Q .non Y,rt:=Q } (L2.start N b) H):bW P w K mg base ab (k+1) f fd ps sp:=by
 obtain⟨r,p,kV,y,o,z,m,v,u,rfl,g,n⟩:=F.ex;have e:m=.ref c:=e;subst e;refine C3 g n S d λA a s H b Q E i j=>?_;obtain⟨t,h,q⟩:=l A a s H b Q E i j;exact⟨t,h.nox,q⟩
def Fun.okG{N:Φ}(j:Nat)(c:FA φ)(F:Fun K x qual st f fd)(y:bK N ps (bG st))(g:∀W R,S W R->W.length=ps.length)
 (T:∀(b:Value)(A:Around)(a:xt)(s:Shared)(H:Hp)(E:XK),dX k (A.deeper (envOfC qual (bG st) s.zs f b)) ->
   ∃r,fb (MK ab P w K mg base N qual (bG st) f b A a s H E).nox (dZ st) r/\∀W t R,W[j]?=some t->S W R->r { nx:=λ_=>R (.fz .non),rt:=R } ((start' N.length W).set j (.gh (φ t) t))):bW P w K mg base ab (k+1) f fd ps (gs K φ j S):=by
 refine F.ok y (λn H Q E h=>?_) λb A a s H n Q E G h=>?_
 .obtain⟨u,t,W,R,_,_,_,r,i,_⟩:=h;exact r.len.trans (g W R i)
 .obtain⟨u,t,W,R,M,l,X,r,i,q⟩:=h;obtain⟨rd,L,J⟩:=T b A a s H E G;have m:=Bt (H:=H);have p:=D5 q;have D:=(ao.mp l).1;have C:j<n.length:=by rwa[r.len]
  refine⟨_,L,λ_=>[],_,_,?_,J W t R l i,⟨λown Y O o d E h=>?_,λU Y v x B d E s I=>p U Y v x B d (m ▸ E) s I,λ_ _ _ _ z=>z.elim,λ_ _ _ _ z=>z.elim,λ_ _ _ _ _ _ z=>z.elim⟩⟩
  .refine(SR.start r N).toGh (c t) ?_ λV e=>?_
   .refine slot_of ?_;unfold start';rw[aF (by simpa using D),aq,l];rfl
   .unfold L2.start at e;rw[aF (by simpa using C),aq,M]at e;cases e;rwa[m]
  .exact p (Ow own) Y .non _ [] d (m ▸ E) ⟨rfl,_,rfl,.non⟩ λ_ z=>(nomatch z)
end L2
namespace Ac
def lw(t b:Int):Int×Int:=(t/(Int.gcd t b:Nat),b/(Int.gcd t b:Nat))
def yk{t b:Int}(a:0<b):(0:Int)<(Int.gcd t b:Nat):=by
 have:=l5 t (show b≠0 by exact WP a);lia
section
variable{κ:Type}[DecidableEq κ]
def look(a:List (κ×Int))(r:κ):Int:=((a.find? λg=>decide (g.1=r)).map (·.2)).getD 0
def put(a:List (κ×Int))(r:κ)(y:Int):List (κ×Int):=if(a.any λg=>decide (g.1=r))=true then a.map (λg=>if g.1=r then(g.1,y)else g)else a++[(r,y)]
def KT(b:List (κ×Int)):List (κ×Int):=b.foldl (λa g=>put a g.1 (look a g.1+g.2)) []
def ways(a:List (κ×Int))(S:Int):List (κ×Int×Int):=((KT a).filter λg=>decide (0<g.2)).map λg=>(g.1,lw g.2 S)
end
end Ac
namespace Rw
open Ac
def rep(r:List Int×Int):Γ:=r.1.map λt=>lw t r.2
def ba(a:xm)(b:Int):Int:=a.foldl (λc t=>((Int.gcd t c:Nat):Int)) b
theorem iT:∀{ts:xm}{b:Int},0<b->0<ba ts b
 |[],_,h=>h
 |t::ts,b,h=>iT (ts:=ts) (yk (t:=t) h)
theorem iK:∀{ts:xm}{b:Int},ba ts b ∣ b/\∀t∈ts,ba ts b ∣ t
 |[],b=>⟨Int.dvd_refl b,by simp⟩
 |t::ts,b=>by
  obtain⟨c,d⟩:=iK (ts:=ts) (b:=((Int.gcd t b:Nat):Int));refine⟨Int.dvd_trans c (QR t b),λx a=>?_⟩;rcases YU.mp a with rfl|a
  .exact Int.dvd_trans c (Int.gcd_dvd_left x b)
  .exact d x a
def uy{ts:xm}{b:Int}(h:0<b):ba ts b<=b:=Int.le_of_dvd h iK.1
def jA(r:List Int×Int):List Int×Int:=(r.1.map λt=>t/ba r.1 r.2,r.2/ba r.1 r.2)
def mG(r:List Int×Int):(jA r).1.length=r.1.length:=by unfold jA;rw[ak]
def ju(r:List Int×Int)(c:Β):List Int×Int:=(r.1.map λt=>t*c.1,r.2*c.2)
def pQ(r o:List Int×Int)(c:Β):List Int×Int :=
 (zipWith (λa b=>a*(o.2*c.2/((Int.gcd r.2 (o.2*c.2):Nat):Int))+b*(r.2/((Int.gcd r.2 (o.2*c.2):Nat):Int)*c.1)) r.1 o.1,r.2*(o.2*c.2/((Int.gcd r.2 (o.2*c.2):Nat):Int)))
structure Big(N:Nat)(r:List Int×Int):Prop where
 pos:0<r.2
 bot:r.2.natAbs<=N
 top:∀t∈r.1,t.natAbs<=N
variable{N:Nat}{R':Nat->Nat->Rat}
def Big.le{M:Nat}{r:List Int×Int}(h:Big N r)(a:N<=M):Big M r:=⟨h.pos,aL h.bot a,λt b=>aL (h.top t b) a⟩
def VR{d t g x:Int}(b:d ∣ t*x)(a:d ∣ g*x):d ∣ ((Int.gcd t g:Nat):Int)*x:=by
 have h:=Int.dvd_coe_gcd b a;rw[Int.gcd_mul_right]at h;rw[Ts]at h;rcases Int.natAbs_eq x with e|e
 .rw[e];exact h
 .rw[e,Int.mul_neg];exact Int.dvd_neg.mpr h
theorem zG{d x:Int} : ∀{ts:xm}{b:Int},d ∣ b*x->(∀t∈ts,d ∣ t*x)->d ∣ ba ts b*x
 |[],_,h,_=>h
 |t::ts,b,h,k=>zG (ts:=ts) (VR (k t aO) h) λu a=>k u (aJ _ a)
def Alk(r s:List Int×Int):Prop:=r.1.length=s.1.length/\∀(k:Nat)(a b:Int),r.1[k]?=some a->s.1[k]?=some b->a*s.2=b*r.2
def oA{r:List Int×Int}(h:0<r.2):ba (jA r).1 (jA r).2=1:=by
 have d:=iT (ts:=r.1) h;obtain⟨f,k⟩:=iK (ts:=r.1) (b:=r.2);have p:0<(jA r).2:=l6 h (XY d) f;have l:=iT (ts:=(jA r).1) p;obtain⟨j,i⟩:=iK (ts:=(jA r).1) (b:=(jA r).2);have g:ba (jA r).1 (jA r).2*ba r.1 r.2 ∣ ba r.1 r.2*1:=by
  refine zG ?_ λt e=>?_
  .obtain⟨u,c⟩:=j;have c:r.2/ba r.1 r.2=ba (jA r).1 (jA r).2*u:=c;refine⟨u,?_⟩;rw[T1,Int.mul_right_comm,<- c,Int.ediv_mul_cancel f]
  .obtain⟨u,c⟩:=i (t/ba r.1 r.2) (YV.mpr ⟨t,e,rfl⟩);refine⟨u,?_⟩;rw[T1,Int.mul_right_comm,<- c,Int.ediv_mul_cancel (k t e)]
 rw[T1]at g;have:=Int.le_of_dvd d g;have:ba (jA r).1 (jA r).2<=1:=by
  refine Int.le_of_mul_le_mul_right (a:=ba r.1 r.2) ?_ d;lia
 lia
def least{r s:List Int×Int}(i:0<r.2)(g:ba r.1 r.2=1)(a:Alk r s)(h:Big N s):Big N r:=by
 have d:r.2 ∣ ba r.1 r.2*s.2:=zG ⟨s.2,rfl⟩ λt f=>by
  obtain⟨k,l,rfl⟩:=List.mem_iff_getElem.mp f;have c:k<s.1.length:=by rwa[<- a.1]
  rw[a.2 k _ _ (aj l) (aj c)];exact⟨_,Int.mul_comm _ _⟩
 rw[g,JJ]at d;obtain⟨m,j⟩:=d;have n:0<m:=Int.pos_of_mul_pos_right (by rw[<- j];exact h.pos) i;refine⟨i,?_,λt f=>?_⟩
 .have:=Int.le_of_dvd h.pos ⟨m,j⟩;have:=h.bot;lia
 .obtain⟨k,l,rfl⟩:=List.mem_iff_getElem.mp f;have c:k<s.1.length:=by rwa[<- a.1]
  have e:=a.2 k _ _ (aj l) (aj c);rw[j,Int.mul_comm r.2 m,<- Int.mul_assoc]at e;have e:=Int.eq_of_mul_eq_mul_right (WP i) e;have b:=h.top _ (aU c);rw[<- e,VW]at b;exact aL (Nat.le_mul_of_pos_right _ (by omega)) b
def gr(N:Nat):Nat->Nat
 |0=>N
 |m+1=>2*(gr N m*gr N m)
def sg(f:Nat->Rat):Nat->Rat
 |0=>0
 |n+1=>sg f n+f n
def sz(f:Nat->Int):Nat->Int
 |0=>0
 |n+1=>sz f n+f n
theorem iu(f g:Nat->Rat):∀n,sg (λj=>f j+g j) n=sg f n+sg g n
 |0=>by unfold sg;grind
 |n+1=>by unfold sg;rw[iu f g n];grind
theorem gq(c:Rat)(f:Nat->Rat):∀n,sg (λj=>c*f j) n=c*sg f n
 |0=>by unfold sg;grind
 |n+1=>by unfold sg;rw[gq c f n];grind
theorem bZ{f g:Nat->Rat} : ∀{n},(∀j,j<n->f j=g j)->sg f n=sg g n
 |0,_=>rfl
 |n+1,h=>by unfold sg;rw[bZ λj a=>h j (WS _ a),h n (X2 _)]
theorem iU:∀n,sg (λ_=>0) n=0
 |0=>rfl
 |n+1=>by unfold sg;rw[iU n];grind
theorem jt{v:Nat->Rat}{k:Nat} : ∀{n},sg (λj=>(if j=k then 1 else 0)*v j) n=if k<n then v k else 0
 |0=>by rw[ZZ (WU _)];rfl
 |n+1=>by
  unfold sg;rw[jt];by_cases h:k<n
  .rw[ZY h,ZZ (UK h),ZY (WS _ h)];grind
  .by_cases e:n=k
   .subst e;rw[ZZ h,ZY rfl,ZY (X2 _)];grind
   .rw[ZZ h,ZZ e,ZZ wp];grind
theorem Zb(f:Nat->Nat->Rat)(m:Nat):∀n,sg (λk=>sg (λl=>f k l) m) n=sg (λl=>sg (λk=>f k l) n) m
 |0=>by
  show(0:Rat)=sg (λ_=>0) m;rw[iU]
 |n+1=>by
  show sg (λk=>sg (λl=>f k l) m) n+sg (λl=>f n l) m=sg (λl=>sg (λk=>f k l) n+f n l) m;rw[iu,Zb f m n]
theorem Kc(f:Nat->Int):∀n,((sz f n:Int):Rat)=sg (λk=>(f k:Rat)) n
 |0=>intCast_zero
 |n+1=>by unfold sz sg;rw[Rat.intCast_add,Kc f n]
theorem Mj{f:Nat->Int}{B:Nat} : ∀{n},(∀k,k<n->(f k).natAbs<=B)->(sz f n).natAbs<=n*B
 |0,_=>by unfold sz;simp
 |n+1,h=>by
  unfold sz;have:=Mj (n:=n) λk a=>h k (WS _ a);have:=h n (X2 _);rw[add_mul,Nat.one_mul];omega
theorem EA(f g:Nat->Int):∀n,sz (λk=>f k-g k) n=sz f n-sz g n
 |0=>rfl
 |n+1=>by unfold sz;rw[EA f g n];lia
theorem Wm{f g:Nat->Int} : ∀{n},(∀j,j<n->f j=g j)->sz f n=sz g n
 |0,_=>rfl
 |n+1,h=>by unfold sz;rw[Wm λj a=>h j (WS _ a),h n (X2 _)]
theorem VF{a:Type}(q:a->Bool):∀L:List a,(L.filter q).length+(L.filter λx=>!q x).length=L.length
 |[]=>rfl
 |x::L=>by
  have:=VF q L;rw[List.filter_cons,List.filter_cons];cases h:q x with
  |true=>rw[ZY rfl,ZZ wr,length_cons,length_cons];lia
  |false=>rw[ZZ wr,ZY wr,length_cons,length_cons];lia
theorem D8{d:Type}(f:d->Nat)(n:Nat):∀(W:Nat)(L:List d),(∀x∈L,f x<W)->W*n<L.length->∃v,n<(L.filter λx=>f x==v).length
 |0,L,h,c=>by
  cases L with
  |nil=>simp at c
  |cons x L=>exact absurd (h x aO) (WU _)
 |W+1,L,h,c=>by
  by_cases e:n<(L.filter λx=>f x==W).length
  .exact⟨W,e⟩
  .have j:=VF (λx=>f x==W) L;rw[add_mul,Nat.one_mul]at c;obtain⟨v,i⟩:=D8 f n W (L.filter λx=>!(f x==W)) (λx g=>by
    obtain⟨a,b⟩:=List.mem_filter.mp g;have:=h x a;have k:f x≠W:=λz=>by rw[z]at b;simp at b
    lia) (by omega)
   exact⟨v,aR i (List.Sublist.length_le (List.Sublist.filter _ List.filter_sublist))⟩
theorem digits_inj{W:Nat}(g:0<W):∀(n c d:Nat),c<W^n->d<W^n->(∀k,k<n->c/W^k%W=d/W^k%W)->c=d
 |0,c,d,a,hd,_=>by
  rw[pow_zero]at a hd;lia
 |n+1,c,d,a,hd,h=>by
  have b:=h 0 (TU _);rw[pow_zero,Nat.div_one,Nat.div_one]at b;have e:=digits_inj g n (c/W) (d/W) (Nat.div_lt_of_lt_mul (by rwa[JU,<- pow_succ])) (Nat.div_lt_of_lt_mul (by rw[JU,<- pow_succ];exact hd)) λk f=>by
   have:=h (k+1) (Nat.succ_lt_succ f);rw[Nat.div_div_eq_div_mul,Nat.div_div_eq_div_mul,<- Nat.pow_succ'];exact this
  rw[<- Nat.div_add_mod c W,<- Nat.div_add_mod d W,e,b]
theorem aaO{p:Nat}(b:1<=N):(2*((p+1)*((2*(p+1)*N)^p*N))+1)^p<((2*(p+1)*N)^p+1)^(p+1):=by
 have w:2*((p+1)*((2*(p+1)*N)^p*N))+1<=2*(p+1)*N*((2*(p+1)*N)^p+1):=by
  have e:2*((p+1)*((2*(p+1)*N)^p*N))=2*(p+1)*N*(2*(p+1)*N)^p:=by ac_rfl
  have a:1<=2*(p+1)*N:=W1 (show 1<=2*(p+1)by lia) b;rw[e];generalize 2*(p+1)*N=X at *;rw[Nat.mul_add,Nat.mul_one];exact Nat.add_le_add_left a _
 refine Y3 (Nat.pow_le_pow_left w p) ?_;rw[Nat.mul_pow,pow_succ,JU];exact Nat.mul_lt_mul_of_pos_left (X2 _) (pow_pos (TU _))
theorem Yx{p:Nat}{C:Nat->Nat->Int}(H:1<=N)(I:∀k l,k<=p->l<p->(C k l).natAbs<=N) :
  ∃s:Nat->Int,(∃k,k<=p/\s k≠0)/\(∀k,(s k).natAbs<=(2*(p+1)*N)^p)/\∀l,l<p->sz (λk=>s k*C k l) (p+1)=0:=by
 have P:=aaO (p:=p) H;generalize Q:(2*(p+1)*N)^p=B at *;generalize G:(p+1)*(B*N)=O at *;have n:∀c k:Nat,c/(B+1)^k%(B+1)<=B:=λc k=>UZ (mod_lt _ (TU _));have r:∀l c,l<p->(sz (λk=>((c/(B+1)^k%(B+1):Nat):Int)*C k l) (p+1)).natAbs<=O:=λl c b=>by
  rw[<- G];refine Mj λk o=>?_;rw[VW,X0];exact W1 (n c k) (I k l (UZ o) b)
 have all:∀q,q<=p->∃L:xE,L.Nodup/\(∀c∈L,c<(B+1)^(p+1))/\(∀l,l<q->∀c∈L,∀d∈L,sz (λk=>((c/(B+1)^k%(B+1):Nat):Int)*C k l) (p+1)=sz (λk=>((d/(B+1)^k%(B+1):Nat):Int)*C k l) (p+1))/\(2*O+1)^(p-q)<L.length:=by
  intro q
  induction q with
  |zero=>exact λ_=>⟨range ((B+1)^(p+1)),List.nodup_range,λc i=>List.mem_range.mp i,λl b=>absurd b (WU _),by rwa[WH,sub_zero]⟩
  |succ q E =>
   intro m;obtain⟨L,f,lt,j,a⟩:=E (aL (Xs _) m);have J:(2*O+1)^(p-q)=(2*O+1)*(2*O+1)^(p-(q+1)):=by rw[<- Nat.pow_succ',show(p-(q+1)).succ=p-q by lia]
   rw[J]at a;obtain⟨v,F⟩:=D8 (λc=>(sz (λk=>((c/(B+1)^k%(B+1):Nat):Int)*C k q) (p+1)+O).toNat) _ _ L (λc _=>by
    have:=r q c (aR (X2 _) m);omega) a
   refine⟨_,List.Pairwise.sublist List.filter_sublist f,λc i=>lt c (List.mem_filter.mp i).1,λl b c i d hd=>?_,F⟩;obtain⟨M,u⟩:=List.mem_filter.mp i;obtain⟨K,t⟩:=List.mem_filter.mp hd;by_cases e:l<q
   .exact j l e c M d K
   .have e:l=q:=by lia
    subst e;have u:=beq_iff_eq.mp u;have t:=beq_iff_eq.mp t;have:=r l c (aR b m);have:=r l d (aR b m);omega
 obtain⟨L,f,lt,j,a⟩:=all p (aG p);rw[Nat.sub_self,pow_zero]at a
 match L,f,lt,j,a with
 |c::d::L,f,lt,j,_ =>
  have w:c≠d:=λz=>by
   rw[z]at f;exact(List.nodup_cons.mp f).1 aO
  refine⟨λk=>((c/(B+1)^k%(B+1):Nat):Int)-((d/(B+1)^k%(B+1):Nat):Int),?_,λk=>?_,λl b=>?_⟩
  .by_cases h:∀k,k<p+1->c/(B+1)^k%(B+1)=d/(B+1)^k%(B+1)
   .exact absurd (digits_inj (TU B) (p+1) c d (lt c aO) (lt d (aJ _ aO)) h) w
   .obtain⟨k,o⟩:=Classical.not_forall.mp h;obtain⟨D,A⟩:=Classical.not_imp.mp o;exact⟨k,by exact UZ D,λz=>A (by
     have z:((c/(B+1)^k%(B+1):Nat):Int)-((d/(B+1)^k%(B+1):Nat):Int)=0:=z;generalize c/(B+1)^k%(B+1)=x at *;generalize d/(B+1)^k%(B+1)=y at *;lia)⟩
  .have:=n c k;have:=n d k;show(((c/(B+1)^k%(B+1):Nat):Int)-((d/(B+1)^k%(B+1):Nat):Int)).natAbs<=B;omega
  .rw[Wm (g:=λk=>((c/(B+1)^k%(B+1):Nat):Int)*C k l-((d/(B+1)^k%(B+1):Nat):Int)*C k l) λk _=>Int.sub_mul _ _ _,EA,j l b c aO d (aJ _ aO)];exact Int.sub_self _
 |[_],_,_,_,a=>exact absurd a wr
 |[],_,_,_,a=>exact absurd a wr
structure gJ(A:Nat->Nat->Int)(b:Nat->Int)(m wd:Nat)(R:Nat->Nat->Rat)(p:Nat)(pv s:Nat->Nat):Prop where
 pm:p<=m
 sm:∀i,i<m->s i<m
 pw:∀l,l<p->pv l<wd
 unit:∀i l,i<m->l<p->R i (pv l)=if i=l then 1 else 0
 dec:∀i j,i<m->j<wd->(A (s i) j:Rat)=(if i<p then 0 else(b (s i):Rat)*R i j)+sg (λl=>(A (s i) (pv l):Rat)*R l j) p
 ind:∀ax:Nat->Rat,(∀j,j<wd->sg (λk=>ax k*(A (s k) j:Rat)) p=0)->∀k,k<p->ax k=0
section
variable{A:Nat->Nat->Int}{b:Nat->Int}{m wd p:Nat}{R:Nat->Nat->Rat}{pv s:Nat->Nat}
def gJ.comb(h:gJ A b m wd R p pv s)(a:Nat->Rat){j:Nat}(d:j<wd):sg (λk=>a k*(A (s k) j:Rat)) p=sg (λl=>sg (λk=>a k*(A (s k) (pv l):Rat)) p*R l j) p:=by
 have pm:=h.pm;rw[bZ (g:=λk=>sg (λl=>a k*(A (s k) (pv l):Rat)*R l j) p) λk c=>?_]
 .rw[Zb];refine bZ λl e=>?_;rw[bZ (g:=λk=>R l j*(a k*(A (s k) (pv l):Rat))) λk _=>XT _ _,gq,XT]
 .rw[h.dec k j (aR c pm) d,ZY c,Rat.zero_add,<- gq];exact bZ λl _=>(Rat.mul_assoc _ _ _).symm
def jy{x:Int}(h:x≠0):(x:Rat)≠0:=λz=>h (Rat.intCast_inj.mp (z.trans Rat.intCast_zero.symm))
def OO{m q:Nat}(b:1<=N)(a:q+1<=m):(2*(q+1)*N)^(q+1)<=(2*m*N)^m:=by
 have x:2*(q+1)*N<=2*m*N:=W1 wp (aG N);have y:1<=2*m*N:=W1 (show 1<=2*m by lia) b;exact aL (Nat.pow_le_pow_left x _) (XG y a)
def lp{m q:Nat}(b:1<=N)(a:q+1<=m):(q+1)*((2*(q+1)*N)^q*N)<=(2*m*N)^m:=by
 refine aL ?_ (OO b a);have e:(2*(q+1)*N)^(q+1)=2*((q+1)*((2*(q+1)*N)^q*N)):=by
  rw[pow_succ];ac_rfl
 lia
def gJ.bound(h:gJ A b m wd R p pv s)(o:1<=N)(w:∀i j,i<m->j<wd->(A i j).natAbs<=N)(K:∀i,i<m->0<b i/\(b i).natAbs<=N){i:Nat}(G:i<m) :
    ∃(v:Nat->Int)(u:Int),u≠0/\u.natAbs<=(2*m*N)^m/\(∀j,j<wd->(v j).natAbs<=(2*m*N)^m)/\∀j,j<wd->R i j*(u:Rat)=(v j:Rat):=by
  have pm:=h.pm;by_cases E:i<p
  . obtain⟨q,rfl⟩ : ∃q,p=q+1:=⟨p-1,by lia⟩
    obtain⟨a,⟨r,F,t⟩,B,D⟩:=Yx (p:=q) (C:=λk l=>A (s k) (if l<i then pv l else pv (l+1))) o λk l n f=>by
      refine w _ _ (h.sm k wp) ?_;by_cases e:l<i
      . rw[ZY e];exact h.pw l (WS _ f)
      . rw[ZZ e];exact h.pw (l+1) (Nat.succ_lt_succ f)
    have cast:∀j,((sz (λk=>a k*A (s k) j) (q+1):Int):Rat)=sg (λk=>(a k:Rat)*(A (s k) j:Rat)) (q+1):=λj=>by
      rw[Kc];exact bZ λk _=>XU _ _
    have H:∀l,l<q+1->l≠i->sz (λk=>a k*A (s k) (pv l)) (q+1)=0:=λl f M=>by
      by_cases e:l<i
      . have:=D l (aR e (UZ E))
        rw[ZY e]at this;exact this
      . have:=D (l-1) (by omega)
        rw[ZZ wp,show l-1+1=l by lia]at this;exact this
    have x:∀j,j<wd->((sz (λk=>a k*A (s k) j) (q+1):Int):Rat)=((sz (λk=>a k*A (s k) (pv i)) (q+1):Int):Rat)*R i j:=λj d=>by
      rw[cast,h.comb (λk=>(a k:Rat)) d,bZ (g:=λl=>(if l=i then 1 else 0)*(((sz (λk=>a k*A (s k) (pv i)) (q+1):Int):Rat)*R l j)) λl f=>?_,jt,ZY E];rw[<- cast (pv l)];by_cases e:l=i
      . rw[ZY e,e,Rat.one_mul]
      . rw[ZZ e,H l f e,intCast_zero];grind
    refine⟨λj=>sz (λk=>a k*A (s k) j) (q+1),sz (λk=>a k*A (s k) (pv i)) (q+1),λz=>?_,?_,λj d=>?_,λj d=>?_⟩
    . have:=h.ind (λk=>(a k:Rat)) (λj d=>by
        rw[<- cast,x j d,z,intCast_zero];grind) r (Y3 F (X2 _))
      exact jy t this
    . exact aL (Mj λk n=>by rw[VW];exact W1 (B k) (w _ _ (h.sm k (aR n pm)) (h.pw i E))) (lp o (by omega))
    . exact aL (Mj λk n=>by rw[VW];exact W1 (B k) (w _ _ (h.sm k (aR n pm)) d)) (lp o (by omega))
    . rw[x j d,XT]
  . obtain⟨a,⟨r,F,t⟩,B,D⟩:=Yx (p:=p) (C:=λk l=>A (s (if k<p then k else i)) (pv l)) o λk l n f=>by
      refine w _ _ (h.sm _ ?_) (h.pw l f);by_cases e:k<p
      . rw[ZY e];exact aR e pm
      . rwa[ZZ e]
    have cast:∀j,((sz (λk=>a k*A (s (if k<p then k else i)) j) (p+1):Int):Rat)=sg (λk=>(a k:Rat)*(A (s k) j:Rat)) p+(a p:Rat)*(A (s i) j:Rat):=λj=>by
      rw[Kc];show sg _ p+((a p*A (s (if p<p then p else i)) j:Int):Rat)=_;rw[ZZ (Wp _),XU,bZ (g:=λk=>(a k:Rat)*(A (s k) j:Rat)) λk n=>by rw[ZY n,XU]]
    have x:∀j,j<wd->((sz (λk=>a k*A (s (if k<p then k else i)) j) (p+1):Int):Rat)=((a p*b (s i):Int):Rat)*R i j:=λj d=>by
      have O:sg (λl=>sg (λk=>(a k:Rat)*(A (s k) (pv l):Rat)) p*R l j) p+(a p:Rat)*sg (λl=>(A (s i) (pv l):Rat)*R l j) p=0:=by
        rw[<- gq,<- iu,bZ (g:=λ_=>0) λl f=>?_,iU];have:=cast (pv l);rw[D l f,intCast_zero]at this
        calc _=(sg (λk=>(a k:Rat)*(A (s k) (pv l):Rat)) p+(a p:Rat)*(A (s i) (pv l):Rat))*R l j:=by grind
          _=0:=by rw[<- this];grind
      rw[cast,h.comb (λk=>(a k:Rat)) d,h.dec i j G d,ZZ E,XU]
      grind
    have L:=K _ (h.sm i G);have I:a p≠0:=λz=>by
      have J:r<p:=by
        by_cases e:r=p
        . rw[e,z]at t;exact absurd rfl t
        . exact XX F e
      have:=h.ind (λk=>(a k:Rat)) (λj d=>by
        have c:=cast j;rw[x j d,z,Int.zero_mul,intCast_zero]at c
        grind) r J
      exact jy t this
    refine⟨λj=>sz (λk=>a k*A (s (if k<p then k else i)) j) (p+1),a p*b (s i),λz=>?_,?_,λj d=>?_,λj d=>?_⟩
    . rcases Int.mul_eq_zero.mp z with y|y
      . exact I y
      . lia
    . rw[VW]
      refine aL (W1 (B p) L.2) (aL ?_ (lp o (show p+1<=m by lia)));exact l8 _ (TU p)
    . exact aL (Mj λk n=>by
        rw[VW];refine W1 (B k) (w _ _ (h.sm _ ?_) d);by_cases e:k<p
        . rw[ZY e];exact aR e pm
        . rwa[ZZ e]) (lp o (show p+1<=m by lia))
    . rw[x j d,XT]
def gJ.congr(h:gJ A b m wd R p pv s)(e:∀i j,i<m->R i j=R' i j):gJ A b m wd R' p pv s:=by
 have pm:=h.pm;refine⟨h.pm,h.sm,h.pw,λi l a c=>by rw[<- e i _ a];exact h.unit i l a c,λi j a d=>?_,h.ind⟩;rw[h.dec i j a d,e i j a,bZ λl c=>by rw[e l j (aR c pm)]]
def gJ.zero(e:∀i,i<m->0<b i):gJ A b m wd (λi j=>(A i j:Rat)/(b i:Rat)) 0 pv id:=by
 refine⟨aZ _,λi c=>c,λl a=>absurd a (WU _),λi l _ a=>absurd a (WU _),λi j c f=>?_,λg _ k d=>absurd d (WU _)⟩;rw[ZZ (WU _)];have:=jy (WP (e i c));show(A i j:Rat)=(b i:Rat)*((A i j:Rat)/(b i:Rat))+0
 grind
def sw(p q x:Nat):Nat:=if x=p then q else if x=q then p else x
def gJ.swap(h:gJ A b m wd R p pv s){q:Nat}(v:p<=q)(r:q<m)(n:∀i j,i<m->j<wd->R' i j=R (sw p q i) j):gJ A b m wd R' p pv (λi=>s (sw p q i)):=by
 have pm:=h.pm;have f:∀l,l<p->sw p q l=l:=λl a=>by unfold sw;rw[ZZ (aQ a),ZZ wp]
 have sm:∀i,i<m->sw p q i<m:=λi c=>by
  unfold sw;split
  .exact r
  .split<;>omega
 have g:∀i,(sw p q i<p)↔i<p:=λi=>by
  unfold sw;split
  .lia
  .split<;>lia
 refine⟨pm,λi c=>h.sm _ (sm i c),h.pw,λi l c a=>?_,λi j c d=>?_,λu o=>?_⟩
 .rw[n i _ c (h.pw l a),h.unit _ l (sm i c) a];by_cases e:i=l
  .rw[ZY e,e,ZY (f l a)]
  .rw[ZZ e,ZZ λz=>e ?_];have:i<p:=(g i).mp (Y3 (WG z) a);rw[<- z,f i this]
 .rw[h.dec _ j (sm i c) d,n i j c d]
  congr 1
  .by_cases e:i<p
   .rw[ZY e,ZY ((g i).mpr e)]
   .rw[ZZ e,ZZ λz=>e ((g i).mp z)]
  .exact bZ λl a=>by rw[n l j (aR a pm) d,f l a]
 .exact h.ind u λj d=>by
   rw[<- o j d];exact bZ λk t=>by rw[f k t]
def gJ.pivot(h:gJ A b m wd R p pv s)(u:p<m)(K:∀i,i<m->0<b i){c:Nat}(q:c<wd)(M:R p c≠0)(B:∀j,j<wd->R' p j*R p c=R p j)(y:∀i j,i<m->i≠p->j<wd->R' i j=R i j-R i c*R' p j) :
  gJ A b m wd R' (p+1) (λl=>if l=p then c else pv l) s:=by
 have pm:=h.pm;have r:R' p c=1:=by
  have:=B c q
  grind
 have D:∀l,l<p->R' p (pv l)=0:=λl a=>by
  have:=B (pv l) (h.pw l a);rw[h.unit p l u a,ZZ (UK a)]at this
  grind
 have x:∀l,l<p->(if l=p then c else pv l)=pv l:=λl a=>ZZ (aQ a);have t:∀i j,i<m->i≠p->j<wd->R i j=R' i j+R i c*R' p j:=λi j n I d=>by rw[y i j n I d];grind
 have dec:∀i j,i<m->j<wd->(A (s i) j:Rat)=(if i<p+1 then 0 else(b (s i):Rat)*R' i j)+sg (λl=>(A (s i) (if l=p then c else pv l):Rat)*R' l j) (p+1):=λi j n d=>by
  have C:=h.dec i j n d;have v:=h.dec i c n q;have L:sg (λl=>(A (s i) (pv l):Rat)*R l j) p=sg (λl=>(A (s i) (pv l):Rat)*R' l j) p+R' p j*sg (λl=>(A (s i) (pv l):Rat)*R l c) p:=by
   rw[<- gq,<- iu];exact bZ λl a=>by rw[t l j (UU a u) (aQ a) d];grind
  rw[L]at C;show _=_+(sg _ p+(A (s i) (if p=p then c else pv p):Rat)*R' p j);rw[ZY rfl,bZ (g:=λl=>(A (s i) (pv l):Rat)*R' l j) λl a=>by rw[x l a]];by_cases e:i<p
  .rw[ZY (WS _ e)];rw[ZY e]at C v
   grind
  .rw[ZZ e]at C v;by_cases G:i=p
   .rw[ZY wp];subst G;have:=B j d
    grind
   .rw[ZZ wp];have:=t i j n G d
    grind
 refine⟨u,h.sm,λl a=>?_,λi l n a=>?_,dec,λf F=>?_⟩
 .by_cases e:l=p
  .show(if l=p then c else pv l)<wd;rwa[ZY e]
  .show(if l=p then c else pv l)<wd;rw[ZZ e];exact h.pw l (XX (UZ a) e)
 .show R' i (if l=p then c else pv l)=_;by_cases e:l=p
  .rw[ZY e,e];by_cases o:i=p
   .rw[ZY o,o];exact r
   .rw[ZZ o,y i c n o q,r];grind
  .rw[ZZ e];have w:l<p:=by exact XX (UZ a) e
   by_cases o:i=p
   .rw[o,D l w,ZZ (Ne.symm e)]
   .rw[y i _ n o (h.pw l w),D l w,h.unit i l n w];grind
 .have E:f p=0:=by
   by_cases z:f p=0
   .exact z
   .exfalso

    have d:∀j,j<wd->sg (λk=>f k*(A (s k) j:Rat)) p=-(f p*(A (s p) j:Rat)):=λj d=>by
     have:sg (λk=>f k*(A (s k) j:Rat)) p+f p*(A (s p) j:Rat)=0:=F j d
     grind
    have H:=h.comb f q;rw[d c q,bZ (g:=λl=>-(f p)*((A (s p) (pv l):Rat)*R l c)) λl a=>by rw[d _ (h.pw l a)];grind,gq]at H;have v:=h.dec p c u q;rw[ZZ (Wp p)]at v;have N:=jy (WP (K _ (h.sm p u)));have:f p*((b (s p):Rat)*R p c)=0:=by rw[v]at H;grind
    grind
  intro k J;by_cases e:k=p
  .rw[e];exact E
  .refine h.ind f (λj d=>?_) k (XX (UZ J) e);have:sg (λk=>f k*(A (s k) j:Rat)) p+f p*(A (s p) j:Rat)=0:=F j d;rw[E]at this
   grind
end
def vr(r:List Int×Int)(j:Nat):Rat:=((r.1.getD j 0:Int):Rat)/(r.2:Rat)
def Pg{f:Int->Int}(b:f 0=0)(a:xm)(j:Nat):(a.map f).getD j 0=f (a.getD j 0):=by
 rw[au,au,aq];cases a[j]? with
 |none=>exact b.symm
 |some t=>rfl
theorem rP{r:List Int×Int}(h:0<r.2)(j:Nat):vr (jA r) j=vr r j:=by
 have a:=iT (ts:=r.1) h;obtain⟨o,n⟩:=iK (ts:=r.1) (b:=r.2);have l:(jA r).1.getD j 0=r.1.getD j 0/ba r.1 r.2:=Pg (f:=λt=>t/ba r.1 r.2) (Int.zero_ediv _) r.1 j;have m:ba r.1 r.2 ∣ r.1.getD j 0:=by
  rw[au];cases e:r.1[j]? with
  |none=>exact⟨0,by rw[Int.mul_zero];rfl⟩
  |some t=>exact n t (aC e)
 have k:(jA r).2=r.2/ba r.1 r.2:=rfl;unfold vr;rw[l,k];generalize r.1.getD j 0=t at *;generalize ba r.1 r.2=g at *;obtain⟨u,i⟩:=m;obtain⟨v,c⟩:=o;rw[i,c,kc _ (WP a),kc _ (WP a),XU,XU];have d:v≠0:=λz=>by rw[c,z,Int.mul_zero]at h;lia
 have:=jy d;have:=jy (WP a)
 grind
def lN{r:List Int×Int}{c:Β}(h:0<r.2)(a:0<c.2)(j:Nat):vr (ju r c) j=vr r j*((c.1:Rat)/(c.2:Rat)):=by
 have d:(ju r c).1.getD j 0=r.1.getD j 0*c.1:=Pg (f:=λt=>t*c.1) (Int.zero_mul _) r.1 j;have b:(ju r c).2=r.2*c.2:=rfl;unfold vr;rw[d,b,XU,XU];have:=jy (WP h);have:=jy (WP a)
 grind
theorem pA{r p:List Int×Int}{c:Β}(D:0<r.2)(z:0<p.2)(A:0<c.2)(E:r.1.length=p.1.length)(j:Nat):vr (pQ r p c) j=vr r j+((c.1:Rat)/(c.2:Rat))*vr p j:=by
 have F:=XZ z A;have a:=yk (t:=r.2) F;obtain⟨u,k⟩:=Int.gcd_dvd_left r.2 (p.2*c.2);obtain⟨v,f⟩:=QR r.2 (p.2*c.2);have H:pQ r p c=(zipWith (λx y=>x*v+y*(u*c.1)) r.1 p.1,r.2*v):=by
  unfold pQ;generalize((Int.gcd r.2 (p.2*c.2):Nat):Int)=g at a k f ⊢;have q:p.2*c.2/g=v:=by rw[f,kc _ (WP a)]
  have o:r.2/g=u:=by
   conv=>lhs;rw[k]
   exact kc _ (WP a)
  rw[q,o]
 generalize((Int.gcd r.2 (p.2*c.2):Nat):Int)=g at a k f;have B:0<v:=Int.pos_of_mul_pos_right (by rwa[<- f]) a;have G:(zipWith (λx y=>x*v+y*(u*c.1)) r.1 p.1).getD j 0=r.1.getD j 0*v+p.1.getD j 0*(u*c.1):=by
  rw[au,au,au,List.getElem?_zipWith];by_cases e:j<r.1.length
  .rw[aj e,aj (aR e (WG E))];rfl
  .rw[aM (VS e),aM wp];show(0:Int)=0*v+0*(u*c.1);rw[Int.zero_mul,Int.zero_mul];rfl
 rw[H];unfold vr;show((zipWith (λx y=>x*v+y*(u*c.1)) r.1 p.1).getD j 0:Rat)/((r.2*v:Int):Rat)=_;rw[G];generalize r.1.getD j 0=x;generalize p.1.getD j 0=y;have n:(r.2:Rat)=(g:Rat)*(u:Rat):=by rw[<- XU,<- k]
 have C:(p.2:Rat)*(c.2:Rat)=(g:Rat)*(v:Rat):=by rw[<- XU,<- XU,f]
 have I:=jy (WP D);have K:=jy (WP z);have N:=jy (WP A);have J:=jy (WP B);have L:=jy (WP a);rw[Rat.intCast_add,XU,XU,XU,XU];generalize(r.2:Rat)=d at *;generalize(p.2:Rat)=m at *;generalize(c.2:Rat)=s at *;generalize(c.1:Rat)=l at *;generalize(g:Rat)=M at *;generalize(u:Rat)=i at *;generalize(v:Rat)=b at *;generalize(x:Rat)=w at *;generalize(y:Rat)=h at *;have q:(w*b+h*(i*l))/(d*b)=w/d+h*(i*l)/(d*b):=by grind
 have o:h*(i*l)/(d*b)=l/s*(h/m):=by
  have:i*(s*m)=d*b:=by rw[n,XT s m,C];grind
  grind
 rw[q,o]
def pJ{M c:Nat}{r:List Int×Int}(i:0<r.2)(g:ba r.1 r.2=1)(hw:r.1.length=c){v:Nat->Int}{u:Int}(n:u≠0)(x:u.natAbs<=M)(m:∀j,j<c->(v j).natAbs<=M)(e:∀j,j<c->vr r j*(u:Rat)=(v j:Rat)):Big M r:=by
 refine least (s:=((range c).map λj=>v j*u.sign,u.natAbs)) i g ⟨?_,λk a b l d=>?_⟩ ⟨?_,?_,λt q=>?_⟩
 .show r.1.length=((range c).map λj=>v j*u.sign).length;rw[hw,ak,WH]
 .have h:k<c:=by rw[<- hw];exact(ao.mp l).1
  have d:((range c).map λj=>v j*u.sign)[k]?=some b:=d;rw[aq,Up h]at d;cases d;show a*((u.natAbs:Nat):Int)=v k*u.sign*r.2;have f:=e k h;unfold vr at f;rw[au,l]at f;have f:(a:Rat)/(r.2:Rat)*(u:Rat)=(v k:Rat):=f;have y:=jy (WP i);have o:a*u=v k*r.2:=by
   refine Rat.intCast_inj.mp ?_;rw[XU,XU]
   grind
  have p:((u.natAbs:Nat):Int)=u*u.sign:=(Int.mul_sign_self u).symm;rw[p,<- Int.mul_assoc,o];ac_rfl
 .show(0:Int)<(u.natAbs:Nat);lia
 .show(((u.natAbs:Nat):Int)).natAbs<=M;rwa[X0]
 .obtain⟨j,w,rfl⟩:=YV.mp q;rw[VW,Int.natAbs_sign_of_ne_zero n,Nat.mul_one];exact m j (List.mem_range.mp w)
end Rw
namespace K56
open PySem PyProof.Rows L2
abbrev Dh:=top 10
abbrev gD:Str:="is_whole"
def Wc:bK Yz fL (bG Dh):=ap
abbrev Ih:=top 11
abbrev jU:Str:="divisor"
def XS:bK PL cT (bG Ih):=ap
abbrev Qx:=top 15
abbrev pZ:Str:="ratio"
def _v:bK Rj mZ (bG Qx):=ap
abbrev Dy:=top 16
abbrev mW:Str:="is_ratio"
def WW:bK Dt jQ (bG Dy):=ap
abbrev YJ:=top 17
abbrev BX:Str:="plus"
def ZB:bK Su v8 (bG YJ):=ap
abbrev Qy:=top 18
abbrev pL:Str:="minus"
def adR:bK SW nG (bG Qy):=ap
abbrev RM:=top 19
abbrev vq:Str:="times"
def acj:bK _e tH (bG RM):=ap
abbrev Yh:=top 20
abbrev Bh:Str:="over"
def UF:bK Pf wV (bG Yh):=ap
abbrev RQ:=top 21
abbrev m9:Str:="under"
def abS:bK Uf lK (bG RQ):=ap
abbrev JZ:=top 23
abbrev pW:Str:="level"
def adL:bK Y4 oN (bG JZ):=ap
abbrev Qq:=top 24
abbrev G5:Str:="total"
def acB:bK RZ zy (bG Qq):=ap
abbrev xO:=top 25
abbrev iG:Str:="greatest"
def Jc:bK sW iH (bG xO):=ap
abbrev RN:=top 26
abbrev Gb:Str:="least"
def _U:bK ZN yx (bG RN):=ap
abbrev qQ:=top 28
abbrev lF:Str:="first_plan"
def NZ:bK wM jo (bG qQ):=ap
abbrev Xi:=top 29
abbrev Ke:Str:="fits"
def ZI:bK XD En (bG Xi):=ap
abbrev v7:=top 30
abbrev jh:Str:="check_plan"
def NP:bK xK gU (bG v7):=ap
abbrev lW:=top 31
abbrev oF:Str:="behind_door"
def Li:bK lE jV (bG lW):=ap
abbrev uH:=top 32
abbrev jL:Str:="raised_look"
def Kw:bK CZ iw (bG uH):=ap
abbrev Gz:=top 34
abbrev uV:Str:="lowest"
def abe:bK Wa rE (bG Gz):=ap
abbrev tZ:=top 35
abbrev qW:Str:="row_times"
def QM:bK A_ nP (bG tZ):=ap
abbrev vR:=top 36
abbrev ud:Str:="row_plus"
def I8:bK DY pR (bG vR):=ap
abbrev yJ:=top 37
abbrev qU:Str:="take_step"
def TY:bK zZ oM (bG yJ):=ap
abbrev zm:=top 38
abbrev nM:Str:="number_at"
def Uh:bK zK jZ (bG zm):=ap
abbrev jH:=top 39
abbrev mq:Str:="fractions_of"
def Jw:bK jP iZ (bG jH):=ap
abbrev xP:=top 40
abbrev pq:Str:="first_from"
def OJ:bK Eb lV (bG xP):=ap
abbrev T6:=top 41
abbrev yq:Str:="go_on"
def _x:bK T7 uT (bG T6):=ap
abbrev yr:=top 42
abbrev qL:Str:="begin_row"
def QH:bK Jd n6 (bG yr):=ap
abbrev rN:=top 43
abbrev mH:Str:="clear_column"
def Jl:bK zU jd (bG rN):=ap
abbrev BK:=top 44
abbrev vQ:Str:="reduced"
def Lf:bK Hl sY (bG BK):=ap
abbrev Dl:=top 46
abbrev tO:Str:="width_of"
def U8:bK Ym pN (bG Dl):=ap
abbrev pI:=top 47
abbrev oh:Str:="with_rights"
def Nh:bK um jD (bG pI):=ap
abbrev tV:=top 48
abbrev qX:Str:="begins_of"
def GP:bK Bb n8 (bG tV):=ap
abbrev G_:=top 49
abbrev wN:Str:="odd_row"
def X_:bK HB rR (bG G_):=ap
abbrev zF:=top 50
abbrev qN:Str:="answer_of"
def Sq:bK Iu nF (bG zF):=ap
abbrev lX:=top 51
abbrev nH:Str:="single_rows"
def Ly:bK lR jT (bG lX):=ap
abbrev ux:=top 52
abbrev nW:Str:="only_answer"
def Lj:bK Cv jz (bG ux):=ap
abbrev ou:=top 54
abbrev mD:Str:="chosen_doors"
def JH:bK tG jc (bG ou):=ap
abbrev yu:=top 55
abbrev qP:Str:="left_rows"
def R0:bK Jb ni (bG yu):=ap
abbrev uc:=top 56
abbrev n_:Str:="worths_of"
def Fz:bK Ax jW (bG uc):=ap
abbrev uR:=top 58
abbrev nJ:Str:="better_door"
def K9:bK uN jJ (bG uR):=ap
abbrev FN:=top 59
abbrev vA:Str:="mended"
def Ph:bK Ml rD (bG FN):=ap
abbrev Dp:=top 60
abbrev tW:Str:="mendings"
def Vq:bK Dk pP (bG Dp):=ap
abbrev Ii:=top 61
abbrev xG:Str:="best_of"
def Yr:bK abI rW (bG Ii):=ap
abbrev vH:=top 64
abbrev pB:Str:="check_many"
def NT:bK Ru lQ (bG vH):=ap
abbrev HD:=top 65
abbrev vZ:Str:="lowered"
def XR:bK G8 sX (bG HD):=ap
abbrev qY:=top 66
abbrev jq:Str:="best_round"
def Cm:bK vY gQ (bG qY):=ap
abbrev qe:=top 67
abbrev oX:Str:="rounds_behind"
def Ht:bK qD j7 (bG qe):=ap
abbrev ji:=top 68
abbrev dJ:Str:="best_rounds"
def Kz:bK jf dI (bG ji):=ap
abbrev sZ:=top 70
abbrev je:Str:="check_behind"
def Jr:bK M8 gA (bG sZ):=ap
abbrev J5:=top 71
abbrev Gd:Str:="gains"
def ac3:bK Q_ yO (bG J5):=ap
abbrev G9:=top 72
abbrev vM:Str:="to_come"
def Yp:bK Hz sG (bG G9):=ap
abbrev p7:=top 73
abbrev qM:Str:="bounds_of"
def RD:bK pX nq (bG p7):=ap
abbrev xg:=top 74
abbrev pH:Str:="round_plan"
def N6:bK Ri lZ (bG xg):=ap
abbrev Bp:=top 77
abbrev o8:Str:="is_word"
def YK:bK Ig mK (bG Bp):=ap
abbrev wY:=top 79
abbrev lM:Str:="check_head"
def Nz:bK wR jr (bG wY):=ap
abbrev nT:=top 80
abbrev fZ:Str:="check_room_name"
def DN:bK Fo eN (bG nT):=ap
abbrev sI:=top 81
abbrev iV:Str:="check_chance"
def Jk:bK KY gB (bG sI):=ap
abbrev pF:=top 82
abbrev nQ:Str:="check_pairs"
def LC:bK uO jF (bG pF):=ap
abbrev pK:=top 83
abbrev mY:Str:="joined_ways"
def M_:bK Dg jK (bG pK):=ap
abbrev uz:=top 90
abbrev nZ:Str:="check_share"
def Mt:bK N8 jM (bG uz):=ap
abbrev wu:=top 91
abbrev o9:Str:="numbers_of"
def Oj:bK vO lJ (bG wu):=ap
abbrev qu:=top 92
abbrev jY:Str:="numbered_ways"
def HY:bK xV iy (bG qu):=ap
abbrev zP:=top 93
abbrev qI:Str:="offers_of"
def Ub:bK Jf oK (bG zP):=ap
abbrev Ye:=top 96
abbrev Gf:Str:="_law_cell"
def _m:bK YQ BJ (bG Ye):=ap
abbrev Ku:=top 97
abbrev j5:Str:="_law_stream"
def aaL:bK Wx jk (bG Ku):=ap
abbrev p0:=top 98
abbrev Lw:Str:="_law_gcd"
def DU:bK DH p8 (bG p0):=ap
abbrev Lh:=top 99
abbrev rH:Str:="_law_ratio"
def abp:bK Vr oU (bG Lh):=ap
abbrev zE:=top 100
abbrev qT:Str:="_law_is_ratio"
def Sv:bK yU m8 (bG zE):=ap
abbrev qZ:=top 101
abbrev lO:Str:="_law_are_ratios"
def Oh:bK wW jm (bG qZ):=ap
abbrev dS:=top 102
abbrev J6:Str:="_law_same"
def VA:bK Of Gg (bG dS):=ap
abbrev Bx:=top 103
abbrev Ew:Str:="_law_names"
def ab8:bK wH yV (bG Bx):=ap
abbrev TX:=top 104
abbrev GD:Str:="_law_share"
def acS:bK Y0 yS (bG TX):=ap
abbrev pV:=top 105
abbrev S7:Str:="_law_pay"
def OW:bK C2 Mu (bG pV):=ap
abbrev DG:=top 106
abbrev J3:Str:="_law_door"
def QF:bK vK Ek (bG DG):=ap
abbrev J1:=top 107
abbrev Fe:Str:="_law_doors"
def Vu:bK SM yp (bG J1):=ap
abbrev GK:=top 108
abbrev Eo:Str:="_law_built"
def Wi:bK Em Ak (bG GK):=ap
abbrev Ue:=top 109
abbrev JV:Str:="_law_hall"
def WB:bK Yv GR (bG Ue):=ap
abbrev Qs:=top 111
abbrev yX:Str:="_law_below"
def ac8:bK SZ uY (bG Qs):=ap
abbrev Xn:=top 112
abbrev J_:Str:="_law_size"
def _Y:bK XF Gx (bG Xn):=ap
abbrev Yg:=top 113
abbrev D_:Str:="_law_less"
def _P:bK N1 Bj (bG Yg):=ap
abbrev q_:=top 114
abbrev lD:Str:="_law_none_above"
def O9:bK vG jg (bG q_):=ap
abbrev JT:=top 115
abbrev Gy:Str:="_law_alike"
def _T:bK SJ zQ (bG JT):=ap
abbrev Lz:=top 116
abbrev BW:Str:="_law_nearer"
def aa4:bK Vs uX (bG Lz):=ap
abbrev zM:=top 117
abbrev Bu:Str:="_law_within"
def aaN:bK yt u_ (bG zM):=ap
abbrev Wy:=top 118
abbrev QZ:Str:="law"
def Xv:bK pj Rm (bG Wy):=ap
abbrev yG:Stmt:=g_ 84 0
abbrev FJ:Str:="__init__"
abbrev FQ:Str:="Door.__init__"
def QX:bK yE j8 (bG yG):=ap
abbrev Ba:Stmt:=g_ 84 1
abbrev Fd:Str:="ways"
abbrev Gi:Str:="Door.ways"
def TF:bK Vx nR (bG Ba):=ap
abbrev zf:Stmt:=g_ 85 0
abbrev Eh:Str:="__init__"
abbrev Fb:Str:="Sure.__init__"
def Rx:bK zV oG (bG zf):=ap
abbrev wZ:Stmt:=g_ 86 0
abbrev Ck:Str:="__init__"
abbrev Cu:Str:="Mixed.__init__"
def Ol:bK wJ gW (bG wZ):=ap
abbrev yN:Stmt:=g_ 87 0
abbrev Gr:Str:="__init__"
abbrev Gj:Str:="Toss.__init__"
def Uj:bK IK oE (bG yN):=ap
abbrev t_:Stmt:=g_ 88 0
abbrev Gw:Str:="__init__"
abbrev G3:Str:="Even.__init__"
def Q8:bK yK m7 (bG t_):=ap
abbrev tX:Stmt:=g_ 94 0
abbrev FT:Str:="__init__"
abbrev G7:Str:="Hall.__init__"
def RG:bK yF oH (bG tX):=ap
abbrev Aj:Stmt:=g_ 94 1
abbrev EY:Str:="size"
abbrev Gq:Str:="Hall.size"
def SN:bK W7 fu (bG Aj):=ap
abbrev oJ:Stmt:=g_ 94 4
abbrev rQ:Str:="check_room"
abbrev rO:Str:="Hall.check_room"
def DK:bK Ft fX (bG oJ):=ap
abbrev o_:Stmt:=g_ 94 6
abbrev yP:Str:="offers"
abbrev zT:Str:="Hall.offers"
def K6:bK uM dY (bG o_):=ap
structure a' where
 Door:Addr
 Sure:Addr
 Mixed:Addr
 Toss:Addr
 Even:Addr
 Hall:Addr
 NOUGHT:Addr
 ONE:Addr
 Door_init:Addr
 Door_ways:Addr
 Sure_init:Addr
 Mixed_init:Addr
 Toss_init:Addr
 Even_init:Addr
 Hall_init:Addr
 Hall_size:Addr
 Hall_check_room:Addr
 Hall_offers:Addr
 T_best_rounds:Addr
structure Txt(K:Frag)(mg:Str->Ω)(D:a'):Prop where
 aeH:mg "Door"=some (.ref D.Door)
 ahY:mg "Even"=some (.ref D.Even)
 ah9:mg "Hall"=some (.ref D.Hall)
 Tn:mg "Mixed"=some (.ref D.Mixed)
 iY:mg "NOUGHT"=some (.ref D.NOUGHT)
 Ei:mg "ONE"=some (.ref D.ONE)
 ahz:mg "Sure"=some (.ref D.Sure)
 ah7:mg "Toss"=some (.ref D.Toss)
 Kr:∃u,mg "LONGEST_WORD"=some u/\z4 (.int 8) u
 aeD:∃u,mg "MOST"=some u/\z4 (.int 40) u
 gC:∀H,SqT K H D.NOUGHT [.int 0,.int 1]
 w6:∀H,SqT K H D.ONE [.int 1,.int 1]
 abR:Cls K D.Door
 Tj:Meth K D.Door "ways" D.Door_ways
 Nu:cD K D.Door "leads"
 S9:cD K D.Door "name"
 Jq:cD K D.Door "numbers"
 JG:cD K D.Door "offered"
 UL:cD K D.Door "pay"
 Ox:cD K D.Door "share"
 agk:Mk K D.Sure D.Sure_init
 acq:Cls K D.Sure
 QL:Meth K D.Sure "ways" D.Door_ways
 Ou:cD K D.Sure "leads"
 RW:cD K D.Sure "name"
 Js:cD K D.Sure "numbers"
 JQ:cD K D.Sure "offered"
 V8:cD K D.Sure "pay"
 O1:cD K D.Sure "share"
 aeo:Mk K D.Mixed D.Mixed_init
 abz:Cls K D.Mixed
 Nq:Meth K D.Mixed "ways" D.Door_ways
 Lb:cD K D.Mixed "leads"
 N7:cD K D.Mixed "name"
 Ia:cD K D.Mixed "numbers"
 Hi:cD K D.Mixed "offered"
 Rb:cD K D.Mixed "pay"
 Nk:cD K D.Mixed "share"
 aeT:Mk K D.Toss D.Toss_init
 acJ:Cls K D.Toss
 RB:Meth K D.Toss "ways" D.Door_ways
 Ov:cD K D.Toss "leads"
 SQ:cD K D.Toss "name"
 JK:cD K D.Toss "numbers"
 JN:cD K D.Toss "offered"
 Vp:cD K D.Toss "pay"
 N_:cD K D.Toss "share"
 afP:Mk K D.Even D.Even_init
 acd:Cls K D.Even
 Rq:Meth K D.Even "ways" D.Door_ways
 Oz:cD K D.Even "leads"
 T8:cD K D.Even "name"
 Jo:cD K D.Even "numbers"
 Jy:cD K D.Even "offered"
 WK:cD K D.Even "pay"
 O2:cD K D.Even "share"
 afC:Mk K D.Hall D.Hall_init
 i_:Cls K D.Hall
 DQ:Meth K D.Hall "check_room" D.Hall_check_room
 jB:Meth K D.Hall "offers" D.Hall_offers
 nu:Meth K D.Hall "size" D.Hall_size
 Ot:cD K D.Hall "leads"
 R9:cD K D.Hall "name"
 JC:cD K D.Hall "numbers"
 JL:cD K D.Hall "offered"
 U4:cD K D.Hall "pay"
 Oq:cD K D.Hall "share"
 FZ:Ja K D.Door "__init__" D.Door_init
 Td:Ce K FJ FQ yG j8 D.Door_init
 RV:Ce K Fd Gi Ba nR D.Door_ways
 Uc:Ce K Eh Fb zf oG D.Sure_init
 Cq:Ja K D.Mixed "__init__" D.Mixed_init
 O8:Ce K Ck Cu wZ gW D.Mixed_init
 Q7:Ce K Gr Gj yN oE D.Toss_init
 Rh:Ce K Gw G3 t_ m7 D.Even_init
 QB:Ce K FT G7 tX oH D.Hall_init
 Gp:Ce K EY Gq Aj fu D.Hall_size
 sS:Ce K rQ rO oJ fX D.Hall_check_room
 yR:Ce K yP zT o_ dY D.Hall_offers
 U5:mg "abs"=none
 ad3:mg "all"=none
 al7:mg "any"=none
 ac9:mg "bool"=none
 pO:mg "enumerate"=none
 Qc:mg "int"=none
 fG:mg "isinstance"=none
 gk:mg "len"=none
 M9:mg "list"=none
 gF:mg "range"=none
 adF:mg "sorted"=none
 amT:mg "str"=none
 ad1:mg "sum"=none
 ZL:mg "tuple"=none
 I9:mg "zip"=none
 Lg:cL K mg gD Dh fL
 P_:cL K mg jU Ih cT
 Zk:cL K mg pZ Qx mZ
 Xl:cL K mg mW Dy jQ
 acZ:cL K mg BX YJ v8
 agO:cL K mg pL Qy nG
 aar:cL K mg vq RM tH
 adV:cL K mg Bh Yh wV
 aap:cL K mg m9 RQ lK
 Zj:cL K mg pW JZ oN
 f_total:cL K mg G5 Qq zy
 DP:cL K mg iG xO iH
 agn:cL K mg Gb RN yx
 RK:cL K mg lF qQ jo
 aiA:cL K mg Ke Xi En
 Tt:cL K mg jh v7 gU
 CW:cL K mg oF lW jV
 Cz:cL K mg jL uH iw
 adS:cL K mg uV Gz rE
 W2:cL K mg qW tZ nP
 XQ:cL K mg ud vR pR
 WD:cL K mg qU yJ oM
 V4:cL K mg nM zm jZ
 MJ:cL K mg mq jH iZ
 Qz:cL K mg pq xP lV
 ae8:cL K mg yq T6 uT
 Wj:cL K mg qL yr n6
 Lr:cL K mg mH rN jd
 aa8:cL K mg vQ BK sY
 W8:cL K mg tO Dl pN
 Og:cL K mg oh pI jD
 Vb:cL K mg qX tV n8
 aaX:cL K mg wN G_ rR
 Wu:cL K mg qN zF nF
 Oa:cL K mg nH lX jT
 O4:cL K mg nW ux jz
 Ng:cL K mg mD ou jc
 Vz:cL K mg qP yu ni
 Wk:cL K mg n_ uc jW
 NQ:cL K mg nJ uR jJ
 acY:cL K mg vA FN rD
 Xz:cL K mg tW Dp pP
 abm:cL K mg xG Ii rW
 TJ:cL K mg pB vH lQ
 PX:cL K mg vZ HD sX
 T_:cL K mg jq qY gQ
 Jx:cL K mg oX qe j7
 Od:afc K mg dJ ji dI D.T_best_rounds
 Mz:cL K mg je sZ gA
 agi:cL K mg Gd J5 yO
 abG:cL K mg vM G9 sG
 Vn:cL K mg qM p7 nq
 Rr:cL K mg pH xg lZ
 abu:cL K mg o8 Bp mK
 Ss:cL K mg lM wY jr
 FP:cL K mg fZ nT eN
 K_:cL K mg iV sI gB
 Nx:cL K mg nQ pF jF
 Ny:cL K mg mY pK jK
 OD:cL K mg nZ uz jM
 Uk:cL K mg o9 wu lJ
 Jv:cL K mg jY qu iy
 Wg:cL K mg qI zP oK
 ahN:cL K mg Gf Ye BJ
 ach:cL K mg j5 Ku jk
 al0:cL K mg Lw p0 p8
 adn:cL K mg rH Lh oU
 W5:cL K mg qT zE m8
 Tr:cL K mg lO qZ jm
 ahS:cL K mg J6 dS Gg
 afG:cL K mg Ew Bx yV
 agx:cL K mg GD TX yS
 akG:cL K mg S7 pV Mu
 ajE:cL K mg J3 DG Ek
 afi:cL K mg Fe J1 yp
 agG:cL K mg Eo GK Ak
 ait:cL K mg JV Ue GR
 afH:cL K mg yX Qs uY
 ahQ:cL K mg J_ Xn Gx
 aiE:cL K mg D_ Yg Bj
 R7:cL K mg lD q_ jg
 afK:cL K mg Gy JT zQ
 aeu:cL K mg BW Lz uX
 ad4:cL K mg Bu zM u_
def bb(D:a')(C:Addr):Prop:=C=D.Door\/C=D.Sure\/C=D.Mixed\/C=D.Toss\/C=D.Even\/C=D.Hall
variable{K:Frag}{mg:Str->Ω}{D:a'}{c a r s:Rat}{b:Int}{i m n k O N X W U S:Nat}{x y v':Nat->Rat}{j F:zI}{Q:Type}{o:xy}{I L:wv}{C:zS}{A M J:xz}{d:Φ}{σ:L2.St}{H:Hp}
def Txt.cl(T:Txt K mg D):∀C,bb D C->Cls K C:=by
 rintro C (rfl|rfl|rfl|rfl|rfl|rfl)
 .exact T.abR
 .exact T.acq
 .exact T.abz
 .exact T.acJ
 .exact T.acd
 .exact T.i_
def Txt.El(T:Txt K mg D):∀C,bb D C->cD K C "leads":=by
 rintro C (rfl|rfl|rfl|rfl|rfl|rfl)
 .exact T.Nu
 .exact T.Ou
 .exact T.Lb
 .exact T.Ov
 .exact T.Oz
 .exact T.Ot
def Txt.Ka(T:Txt K mg D):∀C,bb D C->cD K C "name":=by
 rintro C (rfl|rfl|rfl|rfl|rfl|rfl)
 .exact T.S9
 .exact T.RW
 .exact T.N7
 .exact T.SQ
 .exact T.T8
 .exact T.R9
def Txt.Dz(T:Txt K mg D):∀C,bb D C->cD K C "numbers":=by
 rintro C (rfl|rfl|rfl|rfl|rfl|rfl)
 .exact T.Jq
 .exact T.Js
 .exact T.Ia
 .exact T.JK
 .exact T.Jo
 .exact T.JC
def Txt.Ma(T:Txt K mg D):∀C,bb D C->cD K C "offered":=by
 rintro C (rfl|rfl|rfl|rfl|rfl|rfl)
 .exact T.JG
 .exact T.JQ
 .exact T.Hi
 .exact T.JN
 .exact T.Jy
 .exact T.JL
def Txt.acG(T:Txt K mg D):∀C,bb D C->cD K C "pay":=by
 rintro C (rfl|rfl|rfl|rfl|rfl|rfl)
 .exact T.UL
 .exact T.V8
 .exact T.Rb
 .exact T.Vp
 .exact T.WK
 .exact T.U4
def Txt.Av(T:Txt K mg D):∀C,bb D C->cD K C "share":=by
 rintro C (rfl|rfl|rfl|rfl|rfl|rfl)
 .exact T.Ox
 .exact T.O1
 .exact T.Nk
 .exact T.N_
 .exact T.O2
 .exact T.Oq
def dO(D:a')(C:Addr):Prop:=C=D.Door\/C=D.Sure\/C=D.Mixed\/C=D.Toss\/C=D.Even
def dO.fam{C:Addr}(h:dO D C):bb D C:=by
 unfold dO at h;unfold bb;rcases h with h|h|h|h|h<;>simp[h]
def Txt.QD(T:Txt K mg D):∀C,dO D C->Meth K C "ways" D.Door_ways:=by
 rintro C (rfl|rfl|rfl|rfl|rfl)
 .exact T.Tj
 .exact T.QL
 .exact T.Nq
 .exact T.RB
 .exact T.Rq
section
variable{P:Program}{w:World}{K:Frag}{mg:Str->Ω}{base:Heap}{D:a'}{f:Addr}{G:FuncData}
abbrev sk(f:Β):T:=.tup [.int f.1,.int f.2]
def GV:T->Option Bool
 |.int _=>some true
 |.bl _=>some false
 |.non=>some false
 |.str _=>some false
 |.tup _=>some false
 |.lst _=>some false
 |_=>none
def jR:ST:=λa q=>∃t b,a=[t]/\GV t=some b/\q (.fz (.bl b))
def Jh(F:Fun K gD gD Dh f G)(T:Txt K mg D):bW P w K mg base ab 1 f G fL (am K jR):=by
 refine F.okT Wc (λ_ _=>bH (bN (Le (wL .int wn T.fG T.Qc boot_int) (K5 (Kq (wL .bool wn T.fG T.ac9 boot_bool)))))) ?_;rintro _ R ⟨t,b,rfl,h,q⟩;cases t<;>cases h<;>exact q
def oY:ST:=λc q=>∃a b,c=[.int a,.int b]/\q (.fz (.int (Int.gcd a b)))
def KZ(F:Fun K jU jU Ih f G)(T:Txt K mg D):bW P w K mg base ab 1 f G cT (am K oY):=by
 refine F.okT XS (λc _=>bF (bO 2 (bY L_ T.U5 boot_abs (bx wn bC)))
  (bF (bO 3 (bY L_ T.U5 boot_abs (bx we bC)))
  (bF (E_ (cj (qG c.units) wP bA)
  (bF (bO 4 (bL cM wa wP))
  (bF (bO 2 wP)
  (bH (bO 3 wE)))))
  (bH (bN wa))))) ?_
 rintro _ R ⟨a,b,rfl,q⟩;refine⟨λm o=>∃(l r:Nat)(x:OT),o=[.fz (.int a),.fz (.int b),.fz (.int l),.fz (.int r),x]/\Nat.gcd l r=Int.gcd a b/\m=r,⟨_,_,_,_,rfl,rfl,rfl⟩,?_⟩;rintro m _ ⟨l,r,x,rfl,d,e⟩;refine ip (λh=>?_) λh=>?_
 .have c:r≠0:=by intro z;subst z;cases h
  refine⟨λo=>∃x,o=[.fz (.int a),.fz (.int b),.fz (.int r),.fz (.int ((l%r:Nat):Int)),x],?_,?_⟩
  .rintro _ ⟨x,rfl⟩;exact⟨l%r,by have:=mod_lt l (Nat.pos_of_ne_zero c);lia,r,l%r,x,rfl,(gcd_comm r (l%r)).trans ((Nat.gcd_rec r l).symm.trans ((gcd_comm r l).trans d)),rfl⟩
  .exact⟨by lia,_,by rw[Int.natCast_emod];rfl⟩
 .have c:r=0:=by
   by_cases z:r=0
   .exact z
   .have:(decide ((r:Int)=0))=false:=Zp wp;rw[show xr true (decide ((r:Int)=0)) = !decide ((r:Int)=0)from rfl,this]at h;cases h
  subst c;rw[Nat.gcd_zero_right]at d;rw[<- d]at q;exact q
structure ml(t b x y:Int):Prop where
 pos:0<y
 gcd:Int.gcd x y=1
 eq:x*b=t*y
 lx:x.natAbs<=t.natAbs
 ly:y.natAbs<=b.natAbs
def Mx{c q:Int}(h:c≠0):fdiv (c*q) c=q:=by
 rw[Int.fdiv_eq_ediv_of_dvd (Int.dvd_mul_right c q),kc _ h]
def KC{c q:Int}(h:c≠0):q.natAbs<=(c*q).natAbs:=by
 rw[VW];exact l8 _ wp
def z9{t c:Int}(i:b≠0)(a:c≠0)(d:c.natAbs=Int.gcd t b)(f:0<c*b):ml t b (fdiv t c) (fdiv b c):=by
 have h:c ∣ t:=Int.natAbs_dvd.mp (by rw[d];exact Int.gcd_dvd_left t b);have g:c ∣ b:=Int.natAbs_dvd.mp (by rw[d];exact QR t b);obtain⟨x,rfl⟩:=h;obtain⟨y,rfl⟩:=g;rw[Mx a,Mx a];refine⟨?_,?_,?_,KC a,KC a⟩
 .rw[<- Int.mul_assoc]at f;have e:0<c*c:=by
   rcases Int.lt_or_lt_of_ne a with z|z
   .exact Int.mul_pos_of_neg_of_neg z z
   .exact XZ z z
  exact Int.pos_of_mul_pos_right f e
 .rw[Int.gcd_mul_left]at d;have e:0<c.natAbs:=by lia
  exact Nat.eq_of_mul_eq_mul_left e (by rw[Nat.mul_one];exact d.symm)
 .rw[Int.mul_left_comm,Int.mul_assoc]
def pC{a:Int}(c:b≠0):(0:Int)<(Int.gcd a b:Nat):=by
 have:=l5 a c;lia
def Qp{i j:Int}(h:i.natAbs<=j.natAbs)(k:Bd j):Bd i:=Y3 h k
theorem Eg{i:Int}(h:Bd i):Bd (-i):=by unfold Bd at *;rwa[natAbs_neg]
def Xe{a:Int}(c:b≠0)(h:Bd b):Bd ((Int.gcd a b:Nat):Int):=Qp (by
 have:=UX wp (Int.gcd_dvd_natAbs_right a b);omega) h
def vm:ST:=λa q=>∃t b,a=[.int t,.int b]/\b≠0/\Bd b/\∀x y,ml t b x y->q (.fz (sk (x,y)))
def Uy(F:Fun K pZ pZ Qx f G)(T:Txt K mg D)(g:ag P w K mg base 1 gD fL jR)(i:ag P w K mg base 1 jU cT oY):bW P w K mg base ab 2 f G mZ (am K vm):=by
 refine F.okT _v (λh _=>bF (cG (QW.qt (g8 (cY (cN (bI g (bx wn bC)))) (eX (cY (cN (bI g (bx we bC)))))))
  (bH eZ)
  bQ)
  (bF (cG (cj (yA h.units) we bA)
  (bH eZ)
  bQ)
  (bF (bO 2 (bI i (bx wn (bx we bC))))
  (bF (cG (cj CV we bA)
  (bH (bO 2 (uL wa)))
  bQ)
  (bH (bN (dh (bx (bL o7 wn wa) (bx (bL o7 we wa) bC))))))))) ?_
 rintro _ R ⟨t,b,rfl,c,hd,q⟩;refine⟨_,_,rfl,rfl,_,_,rfl,rfl,?_⟩;have d:=pC (a:=t) c;have g1:=Xe (a:=t) c hd;refine dz (Zp c) ⟨_,_,rfl,c4 (λe=>⟨⟨by omega,Eg g1⟩,⟨by omega,Eg g1⟩,q _ _ (z9 c (by omega) wp (Int.mul_pos_of_neg_of_neg wp e))⟩) λe=>⟨⟨by exact WP d,g1⟩,⟨by exact WP d,g1⟩,q _ _ (z9 c (WP d) wp (XZ d wp))⟩⟩
abbrev aa(r:Rat):T:=.tup [.int r.num,.int r.den]
def kE{t x y:Int}(h:ml t b x y)(c:b≠0):sk (x,y)=aa (divInt t b):=by
 have a:=h.pos;have e:divInt t b=⟨x,y.toNat,by lia,by have:=h.gcd;unfold Int.gcd at this;rw[show y.toNat=y.natAbs by lia];exact this⟩:=by
  rw[Rat.mk_eq_divInt,show((y.toNat:Nat):Int)=y by exact Int.toNat_of_nonneg (XY a)];exact(QQ c (WP a)).mpr h.eq.symm
 rw[e];show T.tup [.int x,.int y]=.tup [.int x,.int (y.toNat:Nat)];rw[show((y.toNat:Nat):Int)=y by exact Int.toNat_of_nonneg (XY a)]
def rd(r:Rat):divInt r.num r.den=r:=Rat.num_divInt_den r
def lC(r:Rat):((r.den:Nat):Int)≠0:=by have:=r.den_pos;lia
def Bq(r:Rat):Prop:=Bd r.num/\Bd (r.den:Nat)
def Ko:ST:=λc q=>∃a b:Rat,c=[aa a,aa b]/\Bq a/\Bq b/\Bd ((a.den:Int)*b.den)/\q (.fz (aa (a+b)))
def u9:ST:=λc q=>∃a b:Rat,c=[aa a,aa b]/\Bq a/\Bq b/\Bd ((a.den:Int)*b.den)/\q (.fz (aa (a-b)))
def Ef:ST:=λc q=>∃a b:Rat,c=[aa a,aa b]/\Bq a/\Bq b/\Bd ((a.den:Int)*b.den)/\q (.fz (aa (a*b)))
def J9:ST:=λc q=>∃a b:Rat,c=[aa a,aa b]/\b≠0/\Bq a/\Bq b/\Bd ((a.den:Int)*b.num)/\q (.fz (aa (a/b)))
def rT:ST:=λc q=>∃a b:Rat,c=[aa a,aa b]/\Bq a/\Bq b/\q (.fz (.bl (decide (a<b))))
def qF{a:Int}(d:a≠0)(c:b≠0):a*b≠0:=λz=>(Int.mul_eq_zero.mp z).elim d c
section
variable(Z:ag P w K mg base 2 pZ mZ vm)
include Z
def ZM(F:Fun K BX BX YJ f G):bW P w K mg base ab 3 f G v8 (am K Ko):=by
 refine F.okT ZB (λ_ _=>bH (bN (bI Z (bx (bL dg (bL cQ (bJ wn bA) (bJ we bA)) (bL cQ (bJ we bA) (bJ wn bA))) (bx (bL cQ (bJ wn bA) (bJ we bA)) bC))))) ?_;rintro _ R ⟨a,b,rfl,d,c,hd,q⟩;refine⟨⟨d.1,c.2⟩,⟨c.1,d.2⟩,⟨d.2,c.2⟩,_,_,rfl,qF (lC a) (lC b),hd,λx y l=>?_⟩;rw[kE l (qF (lC a) (lC b)),<- ke _ _ (lC a) (lC b),rd,rd];exact q
def acL(F:Fun K pL pL Qy f G):bW P w K mg base ab 3 f G nG (am K u9):=by
 refine F.okT adR (λ_ _=>bH (bN (bI Z (bx (bL qy (bL cQ (bJ wn bA) (bJ we bA)) (bL cQ (bJ we bA) (bJ wn bA))) (bx (bL cQ (bJ wn bA) (bJ we bA)) bC))))) ?_;rintro _ R ⟨a,b,rfl,d,c,hd,q⟩;refine⟨⟨d.1,c.2⟩,⟨c.1,d.2⟩,⟨d.2,c.2⟩,_,_,rfl,qF (lC a) (lC b),hd,λx y l=>?_⟩;rw[kE l (qF (lC a) (lC b)),<- Rat.divInt_sub_divInt _ _ (lC a) (lC b),rd,rd];exact q
def Wf(F:Fun K vq vq RM f G):bW P w K mg base ab 3 f G tH (am K Ef):=by
 refine F.okT acj (λ_ _=>bH (bN (bI Z (bx (bL cQ (bJ wn bA) (bJ we bA)) (bx (bL cQ (bJ wn bA) (bJ we bA)) bC))))) ?_;rintro _ R ⟨a,b,rfl,d,c,hd,q⟩;refine⟨⟨d.1,c.1⟩,⟨d.2,c.2⟩,_,_,rfl,qF (lC a) (lC b),hd,λx y l=>?_⟩;rw[kE l (qF (lC a) (lC b)),<- kh,rd,rd];exact q
def Z2(F:Fun K Bh Bh Yh f G):bW P w K mg base ab 3 f G wV (am K J9):=by
 refine F.okT UF (λ_ _=>bH (bN (bI Z (bx (bL cQ (bJ wn bA) (bJ we bA)) (bx (bL cQ (bJ wn bA) (bJ we bA)) bC))))) ?_;rintro _ R ⟨a,b,rfl,g,e,d,hd,q⟩;have c:b.num≠0:=λz=>g (by rw[<- rd b,z];exact QP _);refine⟨⟨e.1,d.2⟩,⟨e.2,d.1⟩,_,_,rfl,qF (lC a) c,hd,λx y l=>?_⟩;rw[kE l (qF (lC a) c),<- kh,rd,<- Rat.inv_def,<- div_def];exact q
end
def Wb(F:Fun K m9 m9 RQ f G):bW P w K mg base ab 1 f G lK (am K rT):=by
 refine F.okT abS (λ_ _=>bH (bN (xH CV (bL cQ (bJ wn bA) (bJ we bA)) (bL cQ (bJ we bA) (bJ wn bA))))) ?_;rintro _ R ⟨a,b,rfl,d,c,q⟩;refine⟨⟨d.1,c.2⟩,⟨c.1,d.2⟩,?_⟩;rw[show decide (a<b)=decide (a.num*(b.den:Int)<b.num*(a.den:Int))from decide_eq_decide.mpr (lt_iff a b)]at q;exact q
def tR:ST:=λa q=>∃r:Rat,a=[aa r]/\q (.fz (.bl true))
def V1(F:Fun K mW mW Dy f G)(T:Txt K mg D)(b:ag P w K mg base 1 gD fL jR)(c:ag P w K mg base 1 jU cT oY):bW P w K mg base ab 2 f G jQ (am K tR):=by
 refine F.okT WW (λa _=>bF (cG (QW.qt (g8 (cY (cN (wL .tuple wn T.fG T.ZL boot_tuple))) (eX (cj (qG a.units) (bY eG T.gk VY (bx wn bC)) bA))))
  (bH (bN mV))
  bQ)
  (bF (bO 1 (bJ wn bA))
  (bF (bO 2 (bJ wn bA))
  (bF (cG (QW.qt (g8 (cY (cN (bI b (bx we bC)))) (eX (cY (cN (bI b (bx wa bC)))))))
  (bH (bN mV))
  bQ)
  (bH (bN (Le (xH DI wa bA) (K5 (xH (yA a.units) (bI c (bx we (bx wa bC))) bA))))))))) ?_
 rintro _ R ⟨r,rfl,q⟩;refine⟨_,_,rfl,rfl,_,_,rfl,rfl,?_⟩;have:=r.den_pos;refine fh (Zs wp) ⟨_,_,rfl,?_⟩;rw[show Int.gcd r.num r.den=1 from r.reduced];exact q
def Hb:xz->Nat
 |[]=>1
 |r::u=>Nat.lcm r.den (Hb u)
def b_(n:Nat):xz->Nat
 |[]=>n
 |r::u=>b_ (Nat.lcm n r.den) u
theorem d9:∀(u:xz){n:Nat},0<n->0<b_ n u
 |[],_,h=>h
 |r::u,_,h=>d9 u (Nat.lcm_pos h r.den_pos)
theorem jN:∀(u:xz){n:Nat},n ∣ b_ n u/\∀r∈u,r.den ∣ b_ n u
 |[],n=>⟨Qr n,λ_ z=>(nomatch z)⟩
 |r::u,n=>by
  obtain⟨a,b⟩:=jN u (n:=Nat.lcm n r.den);refine⟨TR (Nat.dvd_lcm_left ..) a,λx c=>?_⟩;rcases YU.mp c with rfl|z
  .exact TR (Nat.dvd_lcm_right ..) a
  .exact b x z
theorem jE:∀(u:xz){n m:Nat},n ∣ m->(∀r∈u,r.den ∣ m)->b_ n u ∣ m
 |[],_,_,h,_=>h
 |r::u,_,_,h,k=>jE u (Nat.lcm_dvd h (k r (aO ..))) λx a=>k x (aJ _ a)
theorem Nj:∀(b a:xz)(n:Nat),b_ n (b++a)=b_ (b_ n b) a
 |[],_,_=>rfl
 |_::b,a,_=>Nj b a _
def tops(B:Nat)(u:xz):xm:=u.map λr=>r.num*((B/r.den:Nat):Int)
def Ys(h:Bd (n:Int))(l:m<=n):Bd (m:Int):=Qp (by omega) h
def _9(n d:Nat):(fdiv (n:Int) ((Int.gcd n d:Nat):Int))*d=((Nat.lcm n d:Nat):Int):=by
 rw[show Int.gcd (n:Int) (d:Int)=Nat.gcd n d from rfl,Int.fdiv_eq_ediv_of_dvd (Int.natCast_dvd_natCast.mpr (Nat.gcd_dvd_left n d)),<- Int.natCast_ediv,<- Ts,Nat.lcm,Nat.div_mul_right_comm (Nat.gcd_dvd_left n d)]
def MF(m n:Nat):fdiv (m:Int) (n:Int)=((m/n:Nat):Int):=by rw[lP _ (WZ _)];rfl
def uW:ST:=λa q=>∃u:xz,a=[.lst (u.map aa)]/\u.length<=1000/\(∀r∈u,Bd r.num)/\Bd (b_ 1 u:Nat)/\q (.fz (.tup [.lst ((tops (b_ 1 u) u).map T.int),.int (b_ 1 u:Nat)]))
def WY(F:Fun K pW pW JZ f G)(s:ag P w K mg base 1 jU cT oY):bW P w K mg base ab 2 f G oN (am K uW):=by
 refine F.okT adL (λ_ _=>bF (bO 1 bA)
  (bF (eV (cI wn) (cB (n:=99) 2)
  (bH (bO 1 (bL cQ (bL o7 we (bI s (bx we (bx (bJ wa bA) bC)))) (bJ wa bA)))))
  (bH (bN (dh (bx (c7 (bG JZ) Y4 ["fractions","bottom","?one"] ["one"] (cI wn) (d_ (i:=0)) cC (bL cQ (bJ wn bA) (bL o7 wa (bJ wn bA)))) (bx we bC))))))) ?_
 rintro _ R ⟨u,rfl,l,m,d,q⟩;refine gK aa u (λb o=>∃x,o=[.fz (.lst (u.map aa)),.fz (.int (b_ 1 b:Nat)),x]) ⟨_,rfl⟩ ?_ ?_
 .rintro b a h _ e ⟨x,rfl⟩;have t:=(jN (a::h) (n:=b_ 1 b)).1;have k:b_ 1 u=b_ (b_ 1 b) (a::h):=by rw[e];exact Nj b (a::h) 1
  have y:=d9 b VU;have c:=d9 u VU;have v:Bd (b_ 1 b:Nat):=Ys d (k ▸ UX (k ▸ c) t);have g:Bd (a.den:Nat):=Ys d (UX c ((jN u).2 a (e ▸ by simp)));refine⟨_,_,rfl,⟨by have:=pC (a:=(b_ 1 b:Nat)) (lC a);exact WP this,Xe (lC a) g⟩,⟨Qp ?_ v,g⟩,.fz (aa a),?_⟩
  .rw[show Int.gcd ((b_ 1 b:Nat):Int) (a.den:Int)=Nat.gcd (b_ 1 b) a.den from rfl,MF];exact Q1 ..
  .rw[_9,Nj]
   rfl
 .rintro _ ⟨x,rfl⟩;refine⟨aL (by simpa using l) wf,comp_map aa (λr=>.int (r.num*((b_ 1 u/r.den:Nat):Int))) u (λr j N M p=>?_) ?_⟩
  .have g:Bd (r.den:Nat):=Ys d (UX (d9 u VU) ((jN u).2 r j));refine⟨⟨lC r,g⟩,⟨m r j,Qp ?_ d⟩,?_⟩
   .rw[MF];exact Q1 ..
   .rw[MF];exact p
  .have:(tops (b_ 1 u) u).map T.int=u.map (λr=>.int (r.num*((b_ 1 u/r.den:Nat):Int))):=by unfold tops;rw[WJ];rfl
   rw[this]at q;exact q
def lI(l:xE):Bool:=decide (1<=l.length)&&decide (l.length<=8)&&l.all λc=>decide (97<=c)&&decide (c<=122)
abbrev Wd(n:Str):Prop:=lI n.cps.toList=true
def Wd.len{n:Str}(h:Wd n):1<=n.length/\n.length<=8:=by
 unfold Wd lI at h;simp only[and_eq_true,decide_eq_true_eq,Array.length_toList]at h;exact h.1
def Zg(c d:Nat):(!decide ((⟨#[d]⟩ : Str).cps.toList<(⟨#[c]⟩ : Str).cps.toList))=decide (c<=d):=by
 have:((⟨#[d]⟩ : Str).cps.toList<(⟨#[c]⟩ : Str).cps.toList)↔d<c:=by
  show[d]<[c]↔d<c;constructor
  .intro h;cases h with
   |rel h=>exact h
   |cons h=>cases h
  .exact λh=>.rel h
 rw[show decide ((⟨#[d]⟩ : Str).cps.toList<(⟨#[c]⟩ : Str).cps.toList)=decide (d<c)from decide_eq_decide.mpr this];by_cases h:c<=d
 .rw[Zs h,Zp (JY h)];rfl
 .rw[Zp h,Zs (Nat.lt_of_not_le h)];rfl
def wg:ST:=λa q=>∃n:Str,a=[.str n]/\Wd n/\q (.fz (.bl true))
def Yw(F:Fun K o8 o8 Bp f G)(T:Txt K mg D):bW P w K mg base ab 1 f G mK (am K wg):=by
 refine F.okT YK (λ_ _=>bF (cG (QW.qt (g8 (cY (cN (wL .str wn T.fG T.amT boot_str))) (eX (cY (Fj CN CN bA (bY UC T.gk VY (bx wn bC)) (MP T.Kr λ_=>.int _))))))
  (bH (bN mV))
  bQ)
  (bH (bN (bY (Xf rfl) T.ad3 boot_all (bx (c7 (bG Bp) Ig Ig ["sign"] (RU wn) (d_ (i:=0)) cC (V5 EC EC wO wn wO)) bC))))) ?_
 rintro _ R ⟨n,rfl,a,q⟩;obtain⟨k,e⟩:=a.len;refine⟨aL e wf,fh (Zs wp) (dz (by rw[Zs (show((n.length:Nat):Int)<=8 by lia)];rfl) ⟨by rw[ak];exact aL e wf,comp_map (λc=>.str ⟨#[c]⟩) (λc=>.bl (decide (97<=c)&&decide (c<=122))) n.cps.toList (λc _ N M d=>?_) ⟨n.cps.toList.map λc=>decide (97<=c)&&decide (c<=122),by rw[WJ];rfl,?_⟩⟩)⟩
 .have g:(!decide ((⟨#[c]⟩ : Str).cps.toList<("a":Str).cps.toList))=decide (97<=c):=by rw[show("a":Str)=⟨#[97]⟩from by decide +kernel];exact Zg 97 c
  have j:(!decide (("z":Str).cps.toList<(⟨#[c]⟩ : Str).cps.toList))=decide (c<=122):=by rw[show("z":Str)=⟨#[122]⟩from by decide +kernel];exact Zg c 122
  refine ip (λh=>?_) λh=>?_
  .rw[<- g,h,<- j]at d;exact d
  .rw[<- g,h]at d;exact d
 .have:((n.cps.toList.map λc=>decide (97<=c)&&decide (c<=122)).all λb=>b)=true:=by
   unfold Wd lI at a;rw[and_eq_true]at a;rw[all_map];exact a.2
  rw[<- this]at q;exact q
def uw:ST:=λa q=>∃(n:Str)(r:Rat),a=[.str n,aa r]/\Wd n/\q (.fz .non)
def Om(F:Fun K lM lM wY f G)(a:ag P w K mg base 1 o8 mK wg)(b:ag P w K mg base 2 mW jQ tR):bW P w K mg base ab 3 f G jr (am K uw):=by
 refine F.okT Nz (λ_ _=>bF (cG (cY (cN (bI a (bx wn bC))))
  (bH eZ)
  bQ)
  (bH (cG (cY (cN (bI b (bx we bC))))
  (bH eZ)
  bQ))) ?_
 rintro _ R ⟨n,r,rfl,c,q⟩;exact⟨_,rfl,c,_,rfl,q⟩
def mO:ST:=λa q=>∃n:Str,a=[.str n]/\Wd n/\q (.fz .non)
def Di(F:Fun K fZ fZ nT f G)(a:ag P w K mg base 1 o8 mK wg):bW P w K mg base ab 2 f G eN (am K mO):=by
 refine F.okT DN (λ_ _=>bH (cG (cY (cN (bI a (bx wn bC))))
  (bH eZ)
  bQ)) ?_
 rintro _ R ⟨n,rfl,b,q⟩;exact⟨_,rfl,b,q⟩
def Ch(r:Rat):Prop:=0<=r/\r<=1/\Bd (r.den:Nat)
def Ch.bq(h:Ch r):Bq r:=by
 have b:=Rat.num_nonneg.mpr h.1;have a:=(le_iff r 1).mp h.2.1;exact⟨Qp (by have:r.num*((1:Rat).den:Int)<=(1:Rat).num*(r.den:Int):=a;simp at this;omega) h.2.2,h.2.2⟩
def k8:Bq 0:=⟨Nat.two_pow_pos 8000,Nat.one_lt_two_pow wf⟩
def hh:Bq 1:=⟨Nat.one_lt_two_pow wf,Nat.one_lt_two_pow wf⟩
def qd:ST:=λa q=>∃r:Rat,a=[aa r]/\Ch r/\q (.fz .non)
def Ju(F:Fun K iV iV sI f G)(T:Txt K mg D)(c:ag P w K mg base 2 mW jQ tR)(b:ag P w K mg base 1 m9 lK rT):bW P w K mg base ab 3 f G gB (am K qd):=by
 refine F.okT Jk (λ_ _=>bH (cG (QW.qt (g8 (cY (cN (bI c (bx wn bC)))) (g8 (cN (bI b (bx wn (bx (lG T.iY T.gC) bC)))) (eX (cN (bI b (bx (lG T.Ei T.w6) (bx wn bC))))))))
  (bH eZ)
  bQ)) ?_
 rintro _ R ⟨r,rfl,a,q⟩;refine⟨_,rfl,r,0,rfl,a.bq,k8,?_⟩;rw[Zp (Rat.not_lt.mpr a.1)];refine⟨1,r,rfl,hh,a.bq,?_⟩;rw[Zp (Rat.not_lt.mpr a.2.1)];exact q
def Et(u:xz):Rat:=u.foldr (· + ·) 0
theorem U9{B:Nat}(e:B≠0):∀{u:xz},(∀r∈u,r.den ∣ B)->divInt (tops B u).sum B=Et u
 |[],_=>by show divInt 0 _=0;exact QP _
 |r::u,h=>by
  have c:=U9 e (u:=u) λx d=>h x (aJ _ d);have a:((B:Nat):Int)≠0:=by lia
  obtain⟨m,b⟩:=h r (aO ..);show divInt (r.num*((B/r.den:Nat):Int)+(tops B u).sum) B=r+Et u;have f:r+Et u=divInt (r.num*B+(tops B u).sum*r.den) (r.den*B):=by rw[<- ke _ _ (lC r) a,rd,c]
  rw[f];refine(QQ a (qF (lC r) a)).mpr ?_;have:B/r.den=m:=by rw[b];exact Nat.mul_div_cancel_left _ r.den_pos
  rw[this,b];simp only[Ts]
  grind
def V3:ST:=λa q=>∃u:xz,a=[.lst (u.map aa)]/\u.length<=1000/\(∀r∈u,Bd r.num)/\Bd (b_ 1 u:Nat)/\q (.fz (aa (Et u)))
def ab5(F:Fun K G5 G5 Qq f G)(T:Txt K mg D)(g:ag P w K mg base 2 pW oN uW)(Z:ag P w K mg base 2 pZ mZ vm):bW P w K mg base ab 3 f G zy (am K V3):=by
 refine F.okT acB (λ_ _=>bF (bO 1 (bI g (bx wn bC)))
  (bH (bN (bI Z (bx (bY (YW rfl) T.ad1 boot_sum (bx (bJ we bA) bC)) (bx (bJ we bA) bC)))))) ?_
 rintro _ R ⟨u,rfl,c,e,b,q⟩;have d:=d9 u VU;have a:((b_ 1 u:Nat):Int)≠0:=by lia
 refine⟨u,rfl,c,e,b,_,rfl,_,_,rfl,a,b,λx y l=>?_⟩;rw[kE l a,U9 (UK d) (jN u).2];exact q
abbrev cg(p:Str×Rat):T:=.tup [.str p.1,aa p.2]
def z6:ST:=λa q=>∃F:xf,a=[.lst (F.map cg)]/\F.length<=1000/\(∀p∈F,Wd p.1/\Ch p.2)/\Bd (b_ 1 (F.map (·.2)):Nat)/\Et (F.map (·.2))=1/\q (.fz .non)
def M4(b:Fun K nQ nQ pF f G)(T:Txt K mg D)(s:ag P w K mg base 2 fZ eN mO)(g:ag P w K mg base 3 iV gB qd)(u:ag P w K mg base 3 G5 zy V3):bW P w K mg base ab 4 f G jF (am K z6):=by
 refine b.okT LC (λc _=>bF (eV (cI wn) (fK (n:=2) (bT (cB (n:=99) 1) (bT (cB (n:=99) 2) dN)))
  (bF (jx (bI s (bx we bC)))
  (bH (jx (bI g (bx wa bC))))))
  (bH (cG (cj (qG c.units) (bI u (bx (c7 (bG pF) uO uO ["pair"] (cI wn) (d_ (i:=0)) cC (bJ wn bA)) bC)) (lG T.Ei T.w6))
  (bH eZ)
  bQ))) ?_
 rintro _ R ⟨F,rfl,C,d,k,h,q⟩;refine gK cg F (λ_ o=>∃x y,o=[.fz (.lst (F.map cg)),x,y]) ⟨_,_,rfl⟩ ?_ ?_
 .rintro z a v _ e ⟨x,y,rfl⟩;obtain⟨m,l⟩:=d a (e ▸ by simp);exact⟨rfl,_,rfl,m,_,rfl,l,_,_,rfl⟩
 .rintro _ ⟨x,y,rfl⟩;refine⟨aL (by simpa using C) wf,comp_map cg (λp=>aa p.2) F (λp _ N M j=>j) ⟨F.map (·.2),by rw[WJ];rfl,by simpa using C,λr c=>?_,k,?_⟩⟩
  .obtain⟨p,t,rfl⟩:=YV.mp c;exact(d p t).2.bq.1
  .rw[h];exact q
def cc(j:xf)(p:Str×Rat):xf:=if(j.any λx=>decide (x.1=p.1))=true then j.map (λx=>if x.1=p.1 then(x.1,x.2+p.2)else x)else j++[p]
def lU(F:xf):xf:=F.foldl cc []
abbrev d7(j:xf):xi:=j.map λx=>.inr x.1
abbrev fe(j:xf):xj:=j.map λx=>aa x.2
def OX(j:xf)(n:Str):R8 (d7 j) (.inr n)=j.any λx=>decide (x.1=n):=by
 unfold R8;rw[any_map]
 congr 1
 funext x
 exact decide_eq_decide.mpr ⟨λz=>Sum.inr.inj z,λz=>ZH Sum.inr z⟩
theorem W9(n:Str):∀j:xf,su (d7 j) (fe j) (.inr n)=(j.find? λx=>decide (x.1=n)).map λx=>aa x.2
 |[]=>rfl
 |x::j=>by
  show(if(Sum.inr x.1:bX)=.inr n then some (aa x.2)else su (d7 j) (fe j) (.inr n))=_;by_cases h:x.1=n
  .rw[ZY (ZH Sum.inr h),List.find?_cons_of_pos (p:=λx:Str×Rat=>decide (x.1=n)) (Zs h)];rfl
  .rw[ZZ λz=>h (Sum.inr.inj z),List.find?_cons_of_neg (p:=λx:Str×Rat=>decide (x.1=n)) (by show ¬decide (x.1=n)=true;rw[Zp h];decide),W9 n j]
def Dq(j:xf)(n:Str):Rat:=((j.find? λx=>decide (x.1=n)).map (·.2)).getD 0
def We(j:xf)(n:Str):((su (d7 j) (fe j) (.inr n)).getD (aa 0))=aa (Dq j n):=by
 rw[W9];unfold Dq;cases(j.find? λx=>decide (x.1=n))<;>rfl
def Y7{j:xf}{n:Str}(b:(j.map (·.1)).Nodup){x:Str×Rat}(a:x∈j)(e:x.1=n):(j.find? λy=>decide (y.1=n))=some x:=by
 induction j with
 |nil=>cases a
 |cons y j f =>
  obtain⟨d,c⟩:=List.nodup_cons.mp b;rcases YU.mp a with rfl|z
  .exact List.find?_cons_of_pos (p:=λy:Str×Rat=>decide (y.1=n)) (Zs e)
  .rw[List.find?_cons_of_neg (p:=λy:Str×Rat=>decide (y.1=n)) (by show ¬decide (y.1=n)=true;rw[Zp λw=>d (YV.mpr ⟨x,z,e.trans w.symm⟩)];decide)];exact f c z
def MC(j:xf)(p:Str×Rat)(c:(j.map (·.1)).Nodup):e_ (d7 j) (.inr p.1)=d7 (cc j p)/\d3 (d7 j) (fe j) (.inr p.1) (aa (Dq j p.1+p.2))=fe (cc j p):=by
 unfold e_ d3 cc;rw[OX];by_cases h:(j.any λx=>decide (x.1=p.1))=true
 .rw[ZY h,ZY h,ZY h];refine⟨by simp only[d7,WJ];refine Tk λx _=>?_;show(Sum.inr x.1:bX)=.inr (if x.1=p.1 then(x.1,x.2+p.2)else x).1;split<;>rfl,?_⟩
  clear h
  rw[show fe (j.map λx=>if x.1=p.1 then(x.1,x.2+p.2)else x)=j.map ((λx=>aa x.2) ∘ λx=>if x.1=p.1 then(x.1,x.2+p.2)else x)from WJ]
  suffices H:∀(a:xf),(∀x∈a,x.1=p.1->x.2=Dq j p.1)->zipWith (λ(k:bX)x=>if k=.inr p.1 then aa (Dq j p.1+p.2)else x) (d7 a) (fe a)=a.map ((λx=>aa x.2) ∘ λx=>if x.1=p.1 then(x.1,x.2+p.2)else x)from H j λx b e=>by
   unfold Dq;rw[Y7 c b e];rfl
  intro a
  induction a with
  |nil=>intro _;rfl
  |cons x a f =>
   intro H;show zipWith _ (Sum.inr x.1::d7 a) (aa x.2::fe a)=_;rw[zipWith_cons_cons,f λy g=>H y (aJ _ g),map_cons]
   congr 1
   by_cases e:x.1=p.1
   .rw[ZY (ZH Sum.inr e)];show _=aa (if x.1=p.1 then(x.1,x.2+p.2)else x).2;rw[ZY e,H x (aO ..) e]
   .rw[ZZ λz=>e (Sum.inr.inj z)];show _=aa (if x.1=p.1 then(x.1,x.2+p.2)else x).2;rw[ZZ e]
 .rw[ZZ h,ZZ h,ZZ h];have d:Dq j p.1=0:=by
   unfold Dq;rw[List.find?_eq_none.mpr λx b z=>h (List.any_eq_true.mpr ⟨x,b,z⟩)];rfl
  rw[d,Rat.zero_add];simp only[d7,fe,bf];exact⟨rfl,rfl⟩
def ZX{Q:Type}[DecidableEq Q]{j:List (Q×Rat)}{p:Q×Rat}(c:(j.map (·.1)).Nodup):((if(j.any λx=>decide (x.1=p.1))=true then j.map (λx=>if x.1=p.1 then(x.1,x.2+p.2)else x)else j++[p]).map (·.1)).Nodup:=by
 by_cases h:(j.any λx=>decide (x.1=p.1))=true
 .rw[ZY h,WJ];rw[show j.map ((λx=>x.1) ∘ λx=>if x.1=p.1 then(x.1,x.2+p.2)else x)=j.map (·.1)from Tk λx _=>by show(if x.1=p.1 then(x.1,x.2+p.2)else x).1=x.1;split<;>rfl];exact c
 .rw[ZZ h,bf];refine List.nodup_append.mpr ⟨c,by simp,λa f b d z=>h ?_⟩;obtain⟨x,e,rfl⟩:=YV.mp f;rw[map_singleton,YR]at d;exact List.any_eq_true.mpr ⟨x,e,Zs (z.trans d)⟩
def _J{j:xf}{p:Str×Rat}(a:(j.map (·.1)).Nodup):((cc j p).map (·.1)).Nodup:=ZX a
def abh(b a:xf):lU (b++a)=a.foldl cc (lU b):=List.foldl_append ..
def UJ(F:xf):((lU F).map (·.1)).Nodup:=by
 suffices H:∀(F j:xf),(j.map (·.1)).Nodup->((F.foldl cc j).map (·.1)).Nodup from H F [] .nil
 intro F
 induction F with
 |nil=>exact λ_ h=>h
 |cons p F a=>exact λj h=>a _ (_J h)
def Qd(F:xf):(lU F).length<=F.length:=by
 suffices H:∀(F j:xf),(F.foldl cc j).length<=j.length+F.length from by simpa[lU]using H F []
 intro F
 induction F with
 |nil=>exact λ_=>aG _
 |cons p F a =>
  intro j;have b:(cc j p).length<=j.length+1:=by
   unfold cc;split
   .rw[ak];exact Xs _
   .rw[aA,length_singleton];exact aG _
  have:=a (cc j p);rw[foldl_cons,length_cons];lia
def DL(F:xf):Prop:=∀b a c,F=b++a::c->Bq (Dq (lU b) a.1)/\Bq a.2/\Bd (((Dq (lU b) a.1).den:Int)*a.2.den)
def GF(F:xf):xf:=(lU F).filter λp=>!decide (p.2=0)
def Ay:ST:=λa q=>∃F:xf,a=[.lst (F.map cg)]/\F.length<=1000/\DL F/\q (.l1 ((GF F).map cg))
def Lq(c:Fun K mY mY pK f G)(T:Txt K mg D)(l:ag P w K mg base 3 BX v8 Ko):bW P w K mg base ab 4 f G jK (am K Ay):=by
 refine c.okT M_ (λg _=>bF (lA 1 Ug)
  (bF (eV (cI wn) (fK (n:=2) (bT (cB (n:=99) 2) (bT (cB (n:=99) 3) dN)))
  (bH (Sd 1 (CP g) (bI l (bx (_V 1 (CP g) wa (lG T.iY T.gC)) (bx wP bC))) wa)))
  (bH (_C 1 (bG pK) Dg ["pairs","chances","?room","chance"] ["room"] (d_ (i:=0)) (Z0 (cj (qG g.units) (Q6 (CP g) wa wn) (lG T.iY T.gC))) (dh (bx wn (bx (Q6 (CP g) wa wn) bC))))))) ?_
 rintro _ R ⟨F,rfl,C,v,q⟩;refine gK cg F (λd o=>∃x y,o=[.fz (.lst (F.map cg)),.d1 (d7 (lU d)) (fe (lU d)),x,y]) ⟨_,_,rfl⟩ ?_ ?_
 .rintro d a J _ e ⟨x,y,rfl⟩;obtain⟨I,H,E⟩:=v d a J e;refine⟨rfl,_,rfl,Dq (lU d) a.1,a.2,ZH (λt=>[t,aa a.2]) (We (lU d) a.1),I,H,E,_,rfl,?_,.fz (.str a.1),.fz (aa a.2),?_⟩
  .have:=Qd d;have:d.length<=F.length:=by rw[e];simp
   rw[ak];exact Y3 (show _<=1000 by lia) wf
  .obtain⟨r,m⟩:=MC (lU d) a (UJ d);rw[show lU (d++[a])=cc (lU d) a from by rw[abh];rfl,<- r,<- m]
   rfl
 .rintro _ ⟨x,y,rfl⟩;have s:=Qd F;refine⟨by rw[ak];exact aL (show _<=1000 by exact aL s C) wf,?_⟩;dsimp only;rw[show(d7 (lU F)).map kT=(lU F).map λp=>.str p.1 from WJ];refine tU (λp=>.str p.1) (λp=>!decide (p.2=0)) cg (lU F) (λp u N M A B=>?_) ?_
  rotate_left
  .exact q
  have k:su (d7 (lU F)) (fe (lU F)) (.inr p.1)=some (aa p.2):=by rw[W9,Y7 (UJ F) u rfl];rfl
  refine⟨_,_,rfl,k,?_⟩;have j:(decide (p.2.num=0)&&decide ((p.2.den:Int)=1))=decide (p.2=0):=by
   by_cases z:p.2=0
   .rw[z];decide
   .rw[Zp z,Zp λy=>z (Rat.num_eq_zero.mp y)];rfl
  refine ip (λh=>⟨_,_,rfl,k,A ?_⟩) λh=>B ?_
  .rw[<- h];exact ZH (λb=>!b) j.symm
  .rw[<- h];exact ZH (λb=>!b) j.symm
abbrev vV:Φ:=["name","pay","leads"]
abbrev gz(C:Addr)(n:Str)(p:Rat)(j:xf):T:=.ins C vV [.str n,aa p,.lst (j.map cg)]
def RJ(D:a'):SI:=λC b a c R=>∃(n:Str)(p:Rat),b=[]/\a=[]/\bb D C/\c=[.str n,aa p]/\Wd n/\R vV [.str n,aa p,.lst []]
def TQ(F:Fun K FJ FQ yG f G)(T:Txt K mg D)(d:ag P w K mg base 3 lM jr uw):bW P w K mg base ab 4 f G j8 (dj K (RJ D)):=by
 refine F.okI QX (λC l j r R i=>by obtain⟨n,p,_,_,_,e,_⟩:=i;exact e ▸ rfl) wf λt A b s H E m k=>?_;refine⟨_,(bF (jx (bI d (bx we (bx wa bC))))
  (bF (tY (Fm:=bb D) 0 (λC h=>⟨T.cl C h,T.Ka C h⟩) we)
  (bF (tY (Fm:=bb D) 0 (λC h=>⟨T.cl C h,T.acG C h⟩) wa)
  (bH (tY (Fm:=bb D) 0 (λC h=>⟨T.cl C h,T.El C h⟩) (eF bC)))))),?_⟩
 rintro a o C _ _ _ R ⟨n,p,rfl,rfl,c,rfl,g,q⟩;exact⟨_,_,rfl,g,⟨c,by decide⟩,⟨c,by decide⟩,⟨c,by decide⟩,_,_,rfl,q⟩
def acR(D:a'):bb D D.Sure:=by simp[bb]
def aaJ(D:a'):bb D D.Mixed:=by simp[bb]
def ace(D:a'):bb D D.Toss:=by simp[bb]
def acv(D:a'):bb D D.Even:=by simp[bb]
def rJ(D:a'):bb D D.Hall:=by simp[bb]
def Y8(D:a'):SI:=λC b a c R=>∃(n m:Str)(p:Rat),b=[]/\a=[]/\bb D C/\c=[.str n,aa p,.str m]/\Wd n/\Wd m/\R vV [.str n,aa p,.lst ([(m,1)].map cg)]
def QK(F:Fun K Eh Fb zf f G)(T:Txt K mg D)(d:OkI P w K mg base ab 4 D.Door_init j8 (dj K (RJ D)))(k:ag P w K mg base 2 fZ eN mO):bW P w K mg base ab 5 f G oG (dj K (Y8 D)):=by
 refine F.okI Rx (λC r l v R j=>by obtain⟨n,p,_,_,_,_,e,_⟩:=j;exact e ▸ rfl) wf λx A b s H E t o=>?_;refine⟨_,(bF (Kd 0 T.FZ d T.aeH (bx we (bx wa bC)))
  (bF (jx (bI k (bx wP bC)))
  (bH (tY (Fm:=bb D) 0 (λC h=>⟨T.cl C h,T.El C h⟩) (eF (bx (dh (bx wP (bx (lG T.Ei T.w6) bC))) bC)))))),?_⟩
 rintro a u C _ _ _ R ⟨n,m,p,rfl,rfl,c,rfl,g,i,q⟩;exact⟨_,_,rfl,rfl,c,rfl,g,_,rfl,i,⟨c,by decide⟩,_,_,rfl,q⟩
structure mh(F:xf):Prop where
 few:F.length<=1000
 ok:∀p∈F,Wd p.1/\Ch p.2
 bd:Bd (b_ 1 (F.map (·.2)):Nat)
 one:Et (F.map (·.2))=1
 jb:DL F
def Ga(D:a'):SI:=λC b a c R=>∃(n:Str)(p:Rat)(F:xf),b=[]/\a=[]/\bb D C/\c=[.str n,aa p,.lst (F.map cg)]/\Wd n/\mh F/\R vV [.str n,aa p,.lst ((GF F).map cg)]
def O_(b:Fun K Ck Cu wZ f G)(T:Txt K mg D)(j:OkI P w K mg base ab 4 D.Door_init j8 (dj K (RJ D)))(i:ag P w K mg base 4 nQ jF z6)(g:ag P w K mg base 4 mY jK Ay):bW P w K mg base ab 5 f G gW (dj K (Ga D)):=by
 refine b.okI Ol (λC r m v R l=>by obtain⟨n,p,_,_,_,_,e,_⟩:=l;exact e ▸ rfl) wf λx A c s H E t o=>?_;refine⟨_,(bF (Kd 0 T.FZ j T.aeH (bx we (bx wa bC)))
  (bF (jx (bI i (bx wP bC)))
  (bH (tY (Fm:=bb D) 0 (λC h=>⟨T.cl C h,T.El C h⟩) (bI g (bx wP bC)))))),?_⟩
 rintro a u C _ _ _ R ⟨n,p,F,rfl,rfl,d,rfl,k,h,q⟩;exact⟨_,_,rfl,rfl,d,rfl,k,_,rfl,h.few,h.ok,h.bd,h.one,_,rfl,h.few,h.jb,⟨d,by decide⟩,_,_,rfl,q⟩
def Fc(D:a'):SI:=λC b a d R=>∃(n x y:Str)(p c:Rat),b=[]/\a=[]/\bb D C/\d=[.str n,aa p,aa c,.str x,.str y]/\Wd n/\Ch c/\mh [(x,c),(y,1-c)]/\R vV [.str n,aa p,.lst ((GF [(x,c),(y,1-c)]).map cg)]
def RP(F:Fun K Gr Gj yN f G)(T:Txt K mg D)(i:ag P w K mg base 3 lM jr uw)(j:ag P w K mg base 3 iV gB qd)(k:ag P w K mg base 3 pL nG u9)(o:OkI P w K mg base ab 5 D.Mixed_init gW (dj K (Ga D))):bW P w K mg base ab 6 f G oE (dj K (Fc D)):=by
 refine F.okI Uj (λC u r B R l=>by obtain⟨n,_,_,p,_,_,_,_,e,_⟩:=l;exact e ▸ rfl) wf λI A b s H E v t=>?_;refine⟨_,(bF (jx (bI i (bx we (bx wa bC))))
  (bF (jx (bI j (bx wP bC)))
  (bH (Kd 0 T.Cq o T.Tn (bx we (bx wa (bx (eF (bx (dh (bx wE (bx wP bC))) (bx (dh (bx (qv 5) (bx (bI k (bx (lG T.Ei T.w6) (bx wP bC))) bC))) bC))) bC))))))),?_⟩
 rintro a z C _ _ _ R ⟨n,x,y,p,c,rfl,rfl,m,rfl,g,d,h,q⟩;refine⟨_,_,rfl,g,_,rfl,d,1,c,rfl,hh,d.bq,?_,n,p,_,rfl,rfl,m,rfl,g,h,_,_,rfl,q⟩;rw[show(((1:Rat).den:Nat):Int)*(c.den:Int)=(c.den:Int)from JJ _];exact d.2.2
def even(a:Φ):xf:=a.map λr=>(r,mkRat 1 a.length)
def YF(h:0<n):aa (mkRat 1 n)=.tup [.int 1,.int (n:Nat)]:=by
 have:mkRat 1 n=⟨1,n,by exact UK h,by show Nat.Coprime 1 n;exact Nat.coprime_one_left n⟩:=by
  rw[Rat.mk_eq_divInt];rfl
 rw[this]
def E'(D:a'):SI:=λC c b d R=>∃(n:Str)(p:Rat)(a:Φ),c=[]/\b=[]/\bb D C/\d=[.str n,aa p,.lst (a.map T.str)]/\Wd n/\mh (even a)/\R vV [.str n,aa p,.lst ((GF (even a)).map cg)]
def Qu(F:Fun K Gw G3 t_ f G)(T:Txt K mg D)(o:OkI P w K mg base ab 5 D.Mixed_init gW (dj K (Ga D))):bW P w K mg base ab 6 f G m7 (dj K (E' D)):=by
 refine F.okI Q8 (λC v t y R l=>by obtain⟨n,p,_,_,_,_,e,_⟩:=l;exact e ▸ rfl) wf λz A c s H E d u=>?_;refine⟨_,(bH (Kd 0 T.Cq o T.Tn (bx we (bx wa (bx (c7 (bG t_) yK yK ["room"] (cI wP) (d_ (i:=0)) cC (dh (bx wn (bx (dh (bx bA (bx (bY eG T.gk VY (bx wE bC)) bC))) bC)))) bC))))),?_⟩;rintro a x C _ _ _ R ⟨n,p,b,rfl,rfl,m,rfl,j,h,q⟩;have k:b.length<=1000:=by have:=h.few;rwa[even,ak]at this
 refine⟨by rw[ak];exact aL k wf,comp_map L2.T.str (λr=>cg (r,mkRat 1 b.length)) b (λr d N M g=>?_) ⟨n,p,even b,rfl,rfl,m,?_,j,h,_,_,rfl,q⟩⟩
 .rw[show cg (r,mkRat 1 b.length)=.tup [.str r,aa (mkRat 1 b.length)]from rfl,YF (List.length_pos_of_mem d),<- ak (f:=L2.T.str)]at g;exact g
 .unfold even;rw[WJ]
  rfl
def Ea(D:a'):ST:=λa q=>∃(C:Addr)(n:Str)(p:Rat)(j:xf),a=[gz C n p j]/\bb D C/\q (.l1 (j.map cg))
def Tg(F:Fun K Fd Gi Ba f G)(T:Txt K mg D):bW P w K mg base ab 1 f G nR (am K (Ea D)):=by
 refine F.okT TF (λ_ _=>bH (bN (oV Tp T.M9 boot_list (bx (tD (Fm:=bb D) (λC h=>⟨T.cl C h,T.El C h⟩) wn) bC)))) ?_;rintro _ R ⟨C,n,p,j,rfl,a,q⟩;exact⟨a,_,rfl,q⟩
structure bM where
 name:Str
 pay:Rat
 ways:zI
abbrev xB:=Option bM
abbrev xp:=List xB
abbrev zD:=List (List bM)
abbrev dB(p:Nat×Rat):T:=.tup [.int (p.1:Nat),aa p.2]
abbrev cz(o:bM):T:=.tup [.str o.name,aa o.pay,.lst (o.ways.map dB)]
abbrev kO:Φ:=["share","numbers","offered"]
abbrev cp(d:Φ):xi:=d.map Sum.inr
abbrev eT(d:Φ):xj:=(range d.length).map λk:Nat=>.int k
abbrev bu(D:a')(s:Rat)(d:Φ)(l:zD):T:=.ins D.Hall kO [aa s,.dct (cp d) (eT d),.lst (l.map λds=>.lst (ds.map cz))]
def yW:ST:=λa q=>∃r:Rat,a=[aa r]/\0<=r/\r<1/\Bq r/\q (.fz .non)
def KD(F:Fun K nZ nZ uz f G)(T:Txt K mg D)(c:ag P w K mg base 2 mW jQ tR)(b:ag P w K mg base 1 m9 lK rT):bW P w K mg base ab 3 f G jM (am K yW):=by
 refine F.okT Mt (λ_ _=>bH (cG (QW.qt (g8 (cY (cN (bI c (bx wn bC)))) (g8 (cN (bI b (bx wn (bx (lG T.iY T.gC) bC)))) (eX (cY (cN (bI b (bx wn (bx (lG T.Ei T.w6) bC)))))))))
  (bH eZ)
  bQ)) ?_
 rintro _ R ⟨r,rfl,e,d,a,q⟩;refine⟨_,rfl,r,0,rfl,a,k8,?_⟩;rw[Zp (Rat.not_lt.mpr e)];refine⟨r,1,rfl,a,hh,?_⟩;rw[Zs d];exact q
def DS(d:Φ)(n:Str)(h:n∉d):R8 (cp d) (.inr n)=false:=by
 unfold R8;rw[any_map];exact List.any_eq_false.mpr λx a z=>h ((Sum.inr.inj (of_decide_eq_true z)) ▸ a)
theorem Yl{Q:Type}(n:Str):∀(d:Φ)(a:List Q),n∉d->su (cp d) a (.inr n)=none
 |[],_,_=>rfl
 |_::_,[],_=>rfl
 |m::d,t::a,h=>by
  show(if(Sum.inr m:bX)=.inr n then some t else su (cp d) a (.inr n))=none;rw[ZZ λz=>h (by rw[Sum.inr.inj z];exact aO ..)];exact Yl n d a λz=>h (aJ _ z)
theorem Y6{Q:Type}{n:Str} : ∀{d:Φ}{a:List Q}{k:Nat}{t:Q},d.Nodup->d[k]?=some n->a[k]?=some t->su (cp d) a (.inr n)=some t
 |[],_,_,_,_,e,_=>by cases e
 |m::d,[],_,_,_,_,e=>by cases e
 |m::d,u::a,k,t,g,f,c=>by
  obtain⟨i,h⟩:=List.nodup_cons.mp g;show(if(Sum.inr m:bX)=.inr n then some u else su (cp d) a (.inr n))=some t;cases k with
  |zero=>cases f;cases c;exact ZY rfl
  |succ k =>
   have b:d[k]?=some n:=by simpa using f
   rw[ZZ λ(z:(Sum.inr m:bX)=.inr n)=>i (by rw[Sum.inr.inj z];exact aC b)];exact Y6 h b (by simpa using c)
def Pe(d:Φ)(n:Str)(h:n∉d):e_ (cp d) (.inr n)=cp (d++[n])/\d3 (cp d) (eT d) (.inr n) (.int (d.length:Nat))=eT (d++[n]):=by
 unfold e_ d3;rw[DS d n h];refine⟨by rw[ZZ wf];simp[cp],?_⟩;rw[ZZ wf];simp only[eT,aA,length_singleton,range_succ,bf,map_singleton]
abbrev gM(p:Str×xj):T:=.tup [.str p.1,.lst p.2]
def Dd:ST:=λb q=>∃a:List (Str×xj),b=[.lst (a.map gM)]/\a.length<=1000/\(∀p∈a,Wd p.1)/\(a.map (·.1)).Nodup/\q (.d1 (cp (a.map (·.1))) (eT (a.map (·.1))))
def NK(F:Fun K o9 o9 wu f G)(T:Txt K mg D)(j:ag P w K mg base 1 o8 mK wg):bW P w K mg base ab 2 f G lJ (am K Dd):=by
 refine F.okT Oj (λh _=>bF (lA 1 Ug)
  (bF (eV (cI wn) (cB (n:=99) 2)
  (bF (bO 3 (bJ wa bA))
  (bF (cG (QW.qt (g8 (cY (cN (bI j (bx wP bC)))) (eX (Xx 1 (D0 (CP h) wP we)))))
  (bH eZ)
  bQ)
  (bH (Sd 1 (CP h) (Nf 1 (bY EZ T.gk VY (bx we bC))) wP)))))
  (bH (mJ 1)))) ?_
 rintro _ R ⟨c,rfl,i,m,d,q⟩;refine gK gM c (λb o=>∃x y,o=[.fz (.lst (c.map gM)),.d1 (cp (b.map (·.1))) (eT (b.map (·.1))),x,y]) ⟨_,_,rfl⟩ ?_ ?_
 .rintro b a r _ e ⟨x,y,rfl⟩;have g:a.1∉b.map (·.1):=by
   rw[e,bf,map_cons]at d;exact λz=>(List.nodup_append.mp d).2.2 a.1 z a.1 (aO ..) rfl
  have p:b.length<=c.length:=by rw[e];simp
  refine⟨_,rfl,m a (e ▸ by simp),_,rfl,?_⟩;rw[Yl a.1 _ _ g];refine⟨trivial,_,rfl,by rw[ak,ak];exact Y3 (show _<=1000 by exact aL p i) wf,.fz (gM a),.fz (.str a.1),?_⟩;obtain⟨l,k⟩:=Pe (b.map (·.1)) a.1 g;rw[bf,map_singleton,<- l,<- k];simp only[ak]
  rfl
 .rintro _ ⟨x,y,rfl⟩;exact q
structure FE(d:Φ)(us:zI):Prop where
 few:us.length<=1000
 lt:∀p∈us,p.1<d.length
abbrev WX(d:Φ)(us:zI):xf:=us.map λp=>(d.getD p.1 ⟨#[]⟩,p.2)
def u5(D:a'):ST:=λb q=>∃(C:Addr)(n:Str)(p:Rat)(d:Φ)(a:zI),b=[gz C n p (WX d a),.dct (cp d) (eT d)]/\dO D C/\d.Nodup/\FE d a/\q (.l1 (a.map dB))
def Hq(F:Fun K jY jY qu f G)(T:Txt K mg D)(l:OkI P w K mg base ab 1 D.Door_ways nR (am K (Ea D))):bW P w K mg base ab 2 f G iy (am K (u5 D)):=by
 refine F.okT HY (λj _=>bF (lA 2 (eF bC))
  (bF (eV (cI (QE.any λC(c:dO D C)=>vg wn (T.cl C c.fam) (T.QD C c) l (KS:=vV))) (fK (n:=2) (bT (cB (n:=99) 3) (bT (cB (n:=99) 4) dN)))
  (bF (cG (aaH (CP j) wP we)
  (bH eZ)
  bQ)
  (bH (uG 2 (dh (bx (Q6 (CP j) we wP) (bx wE bC)))))))
  (bH (mJ 2)))) ?_
 rintro _ R ⟨C,n,p,d,b,rfl,c,m,i,q⟩;refine⟨C,c,⟨rfl,rfl⟩,C,n,p,_,rfl,c.fam,?_⟩;show Ab _ _ _ (List.map cg (WX d b)) _;rw[show(WX d b).map cg=b.map λp=>cg (d.getD p.1 ⟨#[]⟩,p.2)from WJ];refine gK (λp=>cg (d.getD p.1 ⟨#[]⟩,p.2)) b (λh o=>∃x y,o=[.fz (gz C n p (WX d b)),.fz (.dct (cp d) (eT d)),.l1 (h.map dB),x,y]) ⟨_,_,rfl⟩ ?_ ?_
 .rintro h a t _ e ⟨x,y,rfl⟩;have lt:=i.lt a (e ▸ by simp);have s:h.length<b.length:=by rw[e];simp
  have g:=i.few;have r:d[a.1]?=some (d.getD a.1 ⟨#[]⟩):=by rw[au,aj lt];rfl
  have k:su (cp d) (eT d) (.inr (d.getD a.1 ⟨#[]⟩))=some (.int (a.1:Nat)):=Y6 m r (by rw[aq,Up lt];rfl);refine⟨rfl,_,rfl,?_⟩;rw[k];refine⟨_,_,rfl,k,by rw[ak];exact Y3 (show _<=1000 by exact aL (Y2 s) g) wf,.fz (.str (d.getD a.1 ⟨#[]⟩)),.fz (aa a.2),?_⟩;rw[bf]
  rfl
 .rintro _ ⟨x,y,rfl⟩;exact q
structure Made where
 cls:Addr
 of:bM
abbrev xA:=List (List Made)
abbrev e7(d:Φ)(m:Made):T:=gz m.cls m.of.name m.of.pay (WX d m.of.ways)
structure FF(D:a')(d:Φ)(ds:List Made):Prop where
 few:ds.length<=1000
 cls:∀m∈ds,dO D m.cls
 ways:∀m∈ds,FE d m.of.ways
 nd:(ds.map λm=>m.of.name).Nodup
def Tl(d:Φ)(n:Str)(h:n∉d):e_ (cp d) (.inr n)=cp (d++[n])/\d3 (cp d) (d.map λ_=>L2.T.bl true) (.inr n) (.bl true)=(d++[n]).map λ_=>L2.T.bl true:=by
 unfold e_ d3;rw[DS d n h];refine⟨by rw[ZZ wf];simp[cp],?_⟩;rw[ZZ wf];simp
def GQ(D:a'):ST:=λb q=>∃(d:Φ)(a:List Made),b=[.lst (a.map (e7 d)),.dct (cp d) (eT d)]/\d.Nodup/\FF D d a/\q (.l1 (a.map λm=>cz m.of))
def RX(F:Fun K qI qI zP f G)(T:Txt K mg D)(s:ag P w K mg base 2 jY iy (u5 D)):bW P w K mg base ab 3 f G oK (am K (GQ D)):=by
 refine F.okT Ub (λp _=>bF (lA 2 Ug)
  (bF (lA 3 (eF bC))
  (bF (eV (cI wn) (cB (n:=99) 4)
  (bF (cG (Xx 2 (D0 (CP p) (tD (Fm:=bb D) (λC h=>⟨T.cl C h,T.Ka C h⟩) wE) wa))
  (bH eZ)
  bQ)
  (bF (Sd 2 (CP p) mV (tD (Fm:=bb D) (λC h=>⟨T.cl C h,T.Ka C h⟩) wE))
  (bH (uG 3 (dh (bx (tD (Fm:=bb D) (λC h=>⟨T.cl C h,T.Ka C h⟩) wE) (bx (tD (Fm:=bb D) (λC h=>⟨T.cl C h,T.acG C h⟩) wE) (bx (bI s (bx wE (bx we bC))) bC)))))))))
  (bH (mJ 3))))) ?_
 rintro _ R ⟨d,j,rfl,i,hd,q⟩;refine gK (e7 d) j (λb o=>∃x,o=[.fz (.lst (j.map (e7 d))),.fz (.dct (cp d) (eT d)),.d1 (cp (b.map λm=>m.of.name)) ((b.map λm=>m.of.name).map λ_=>.bl true),.l1 (b.map λm=>cz m.of),x]) ⟨_,rfl⟩ ?_ ?_
 .rintro b a v _ e ⟨x,rfl⟩;have k:a.of.name∉b.map λm=>m.of.name:=by
   have i:=hd.nd;rw[e,bf,map_cons]at i;exact λz=>(List.nodup_append.mp i).2.2 _ z _ (aO ..) rfl
  have r:b.length<j.length:=by rw[e];simp
  have g:=hd.few;have l:a∈j:=e ▸ by simp
  have c:=hd.cls a l;refine⟨c.fam,_,rfl,_,rfl,?_⟩;rw[Yl _ _ _ k];refine⟨c.fam,_,rfl,_,rfl,by rw[ak,ak];exact Y3 (show _<=1000 by exact aL (Y2 r) g) wf,c.fam,_,rfl,c.fam,_,rfl,_,_,_,d,a.of.ways,rfl,c,i,hd.ways a l,by rw[ak];exact Y3 (show _<=1000 by exact aL (Y2 r) g) wf,.fz (e7 d a),?_⟩;obtain⟨u,t⟩:=Tl (b.map λm=>m.of.name) a.of.name k;rw[show(b++[a]).map (λm=>m.of.name)=b.map (λm=>m.of.name)++[a.of.name]from bf,<- u,<- t,bf]
  rfl
 .rintro _ ⟨x,rfl⟩;exact q
structure DJ(D:a')(d:Φ)(t:xA):Prop where
 len:t.length=d.length
 few:d.length<=1000
 wd:∀n∈d,Wd n
 nd:d.Nodup
 mds:∀ds∈t,FF D d ds
abbrev DW(d:Φ)(t:xA):xj:=(d.zip t).map λp=>gM (p.1,p.2.map (e7 d))
abbrev fo(t:xA):zD:=t.map λds=>ds.map λm=>m.of
def Zv(D:a'):SI:=λC b a e R=>∃(s:Rat)(d:Φ)(t:xA),C=D.Hall/\b=[]/\a=[]/\e=[aa s,.lst (DW d t)]/\0<=s/\s<1/\Bq s/\DJ D d t/\R kO [aa s,.dct (cp d) (eT d),.lst ((fo t).map λc=>.lst (c.map cz))]
def Ur(F:Fun K FT G7 tX f G)(T:Txt K mg D)(y:ag P w K mg base 3 nZ jM yW)(v:ag P w K mg base 2 o9 lJ Dd)(u:ag P w K mg base 3 qI oK (GQ D)):bW P w K mg base ab 4 f G oH (dj K (Zv D)):=by
 refine F.okI RG (λC U Q X R L=>by obtain⟨n,p,_,_,_,_,e,_⟩:=L;exact e ▸ rfl) wf λY A k s H E V S=>?_;refine⟨_,(bF (jx (bI y (bx we bC)))
  (bF (tY (Fm:=bb D) 0 (λC h=>⟨T.cl C h,T.Av C h⟩) we)
  (bF (tY (Fm:=bb D) 0 (λC h=>⟨T.cl C h,T.Dz C h⟩) (bI v (bx wa bC)))
  (bH (tY (Fm:=bb D) 0 (λC h=>⟨T.cl C h,T.Ma C h⟩) (c7 (bG tX) yF yF ["room"] (cI wa) (d_ (i:=0)) cC (bI u (bx (bJ wn bA) (bx (_0 (Fm:=bb D) 1 (λC h=>⟨T.cl C h,T.Dz C h⟩)) bC))))))))),?_⟩
 rintro a W C _ _ _ R ⟨s,d,t,rfl,rfl,rfl,rfl,I,B,z,h,q⟩;have j:(d.zip t).map (·.1)=d:=List.map_fst_zip (by have:=h.len;exact WG (Eq.symm this));have r:(d.zip t).map (·.2)=t:=List.map_snd_zip (by have:=h.len;exact WG this);have o:(d.zip t).length=d.length:=by rw[VZ,h.len,UV]
 have g:=rJ D;have b:=h.few;refine⟨_,rfl,I,B,z,⟨g,by decide⟩,(d.zip t).map λp=>(p.1,p.2.map (e7 d)),by rw[WJ];rfl,by rw[ak,o];exact b,λp l=>?_,?_,⟨g,by decide⟩,?_⟩
 .obtain⟨x,J,rfl⟩:=YV.mp l;exact h.wd x.1 (j ▸ YV.mpr ⟨x,J,rfl⟩)
 .rw[WJ];exact j.symm ▸ h.nd
 .rw[show((d.zip t).map λp=>(p.1,p.2.map (e7 d))).map (·.1)=d from List.map_map.trans j];refine⟨by rw[ak,o];exact aL b wf,comp_map (λp=>gM (p.1,p.2.map (e7 d))) (λp=>.lst (p.2.map λm=>cz m.of)) (d.zip t) (λp l N M O=>?_) ⟨⟨g,by decide⟩,_,_,rfl,?_⟩⟩
  .exact⟨g,_,rfl,d,p.2,rfl,h.nd,h.mds p.2 (r ▸ YV.mpr ⟨p,l,rfl⟩),O⟩
  .have:(d.zip t).map (λp=>L2.T.lst (p.2.map λm=>cz m.of))=(fo t).map λc=>.lst (c.map cz):=by
    rw[show(fo t).map (λc=>L2.T.lst (c.map cz))=t.map λc=>.lst (c.map λm=>cz m.of)from by simp[fo,WJ,Function.comp_def]]
    conv=>rhs;rw[<- r,WJ]
    rfl
   rw[<- this]at q;exact q
structure yc(d:Φ)(l:zD):Prop where
 len:l.length=d.length
 few:d.length<=1000
 fews:∀ds∈l,ds.length<=1000
def j4(D:a'):ST:=λa q=>∃(s:Rat)(d:Φ)(l:zD),a=[bu D s d l]/\q (.fz (.int (d.length:Nat)))
def G4(F:Fun K EY Gq Aj f G)(T:Txt K mg D):bW P w K mg base ab 1 f G fu (am K (j4 D)):=by
 refine F.okT SN (λ_ _=>bH (bN (bY EZ T.gk VY (bx (tD (Fm:=bb D) (λC h=>⟨T.cl C h,T.Dz C h⟩) wn) bC)))) ?_;rintro _ R ⟨s,d,l,rfl,q⟩;refine⟨rJ D,_,rfl,?_⟩;rw[<- ak (f:=(Sum.inr:Str->bX))]at q;exact q
def Cr(D:a'):ST:=λa q=>∃(s:Rat)(d:Φ)(l:zD)(k:Nat),a=[bu D s d l,.int k]/\k<d.length/\q (.fz .non)
def Cy(F:Fun K rQ rO oJ f G)(T:Txt K mg D)(b:ag P w K mg base 1 gD fL jR)(a:OkI P w K mg base ab 1 D.Hall_size fu (am K (j4 D))):bW P w K mg base ab 2 f G fX (am K (Cr D)):=by
 refine F.okT DK (λ_ _=>bH (cG (QW.qt (g8 (cY (cN (bI b (bx we bC)))) (eX (cY (Fj CN CV bA we (vg wn T.i_ T.nu a (KS:=kO)))))))
  (bH eZ)
  bQ)) ?_
 rintro _ R ⟨s,d,l,k,rfl,c,q⟩;refine⟨_,_,rfl,rfl,⟨rfl,rfl⟩,_,_,_,rfl,?_⟩;show sw (!decide ((k:Int)<(d.length:Nat))) _ _;rw[Zs (show(k:Int)<(d.length:Nat)by lia)];exact q
def rF(D:a'):ST:=λb q=>∃(s:Rat)(d:Φ)(l:zD)(k:Nat)(a:List bM),b=[bu D s d l,.int k]/\yc d l/\l[k]?=some a/\q (.l1 (a.map cz))
def jw{l:List Q}{h:Q->T}{a:Q}(e:l[k]?=some a):ca (l.map h) (k:Nat)=some (h a):=by
 show dq (l.map h) k=_;rw[qm,aq,e];rfl
def Pq(F:Fun K yP zT o_ f G)(T:Txt K mg D)(g:OkI P w K mg base ab 2 D.Hall_check_room fX (am K (Cr D))):bW P w K mg base ab 3 f G dY (am K (rF D)):=by
 refine F.okT K6 (λ_ _=>bF (jx (Bw wn T.i_ T.DQ g (bx we bC) (KS:=kO)))
  (bH (bN (c7 (bG o_) uM uM ["name","pay","numbered"] (cI (bJ (tD (Fm:=bb D) (λC h=>⟨T.cl C h,T.Ma C h⟩) wn) we)) (fK (n:=3) (bT (d_ (i:=0)) (bT (d_ (i:=1)) (bT (d_ (i:=2)) dN)))) cC (dh (bx wn (bx we (bx (oV Tp T.M9 boot_list (bx wa bC)) bC)))))))) ?_
 rintro _ R ⟨s,d,l,k,a,rfl,h,e,q⟩;have b:k<d.length:=by rw[<- h.len];exact(ao.mp e).1
 refine⟨⟨rfl,rfl⟩,s,d,l,k,rfl,b,rJ D,_,rfl,.lst (a.map cz),jw (h:=λa=>L2.T.lst (a.map cz)) e,by rw[ak];exact aL (h.fews a (aC e)) wf,comp_map cz cz a (λo _ N M c=>⟨rfl,c⟩) q⟩
open Rw (vr jA ju pQ ba iT iK uy oA Big rP lN pA mG pJ gJ)
abbrev c3:=List Int×Int
abbrev xl:=List c3
abbrev b'(r:c3):T:=.tup [.lst (r.1.map T.int),.int r.2]
def NN:Nat:=10^600
def n'{i:Int}(h:i.natAbs<=NN*NN*NN):Bd i:=Y3 h (by decide +kernel)
def da{i:Int}(h:i.natAbs<=NN):Bd i:=n' (aL h (by decide +kernel))
def ls{i:Int}(h:i.natAbs<=NN*NN):Bd i:=n' (aL h (by decide +kernel))
def lu{a:Int}(d:a.natAbs<=m)(c:b.natAbs<=n):(a*b).natAbs<=m*n:=by rw[VW];exact W1 d c
def vf{a:Int}(h:0<b):fdiv a b=a/b:=lP _ (XY h)
def Hj:ST:=λa q=>∃r:c3,a=[.lst (r.1.map T.int),.int r.2]/\0<r.2/\Bd r.2/\r.1.length<=1000/\q (.fz (b' (jA r)))
def aaW(F:Fun K uV uV Gz f G)(l:ag P w K mg base 1 jU cT oY):bW P w K mg base ab 2 f G rE (am K Hj):=by
 refine F.okT abe (λ_ _=>bF (bO 2 we)
  (bF (eV (cI wn) (cB (n:=99) 3)
  (bH (bO 2 (bI l (bx wP (bx wa bC))))))
  (bH (bN (dh (bx (c7 (bG Gz) Wa ["tops","bottom","common","?top"] ["top"] (cI wn) (d_ (i:=0)) cC (bL o7 wn wP)) (bx (bL o7 we wa) bC))))))) ?_
 rintro _ R ⟨⟨tops,b⟩,rfl,c,h,j,q⟩;have c:0<b:=c;have h:Bd b:=h;refine gK L2.T.int tops (λg o=>∃x,o=[.fz (.lst (tops.map L2.T.int)),.fz (.int b),.fz (.int (ba g b)),x]) ⟨_,rfl⟩ ?_ ?_
 .rintro g a p _ e ⟨x,rfl⟩;refine⟨_,_,rfl,.fz (.int a),?_⟩;rw[show ba (g++[a]) b=((Int.gcd a (ba g b):Nat):Int)from by unfold ba;rw[List.foldl_append];rfl]
  rfl
 .rintro _ ⟨x,rfl⟩;have d:=iT (ts:=tops) c;have g1:Bd (ba tops b):=Qp (by have:=uy (ts:=tops) c;omega) h;refine⟨by rw[ak];exact aL j wf,comp_map L2.T.int (λt=>.int (t/ba tops b)) tops (λt m N M k=>⟨⟨by exact WP d,g1⟩,?_⟩) ⟨⟨by exact WP d,g1⟩,?_⟩⟩
  .rw[vf d];exact k
  .rw[vf d];have:(jA (tops,b)).1.map L2.T.int=tops.map λt=>.int (t/ba tops b):=WJ;rw[<- this];exact q
structure Fn(c:Rat):Prop where
 n:c.num.natAbs<=NN
 d:c.den<=NN
abbrev pr(c:Rat):Int×Int:=(c.num,c.den)
def Gk:ST:=λa q=>∃(r:c3)(c:Rat),a=[b' r,aa c]/\Big NN r/\r.1.length<=1000/\Fn c/\q (.fz (b' (jA (ju r (pr c)))))
def T9(F:Fun K qW qW tZ f G)(T:Txt K mg D)(h:ag P w K mg base 2 uV rE Hj):bW P w K mg base ab 3 f G nP (am K Gk):=by
 refine F.okT QM (λ_ _=>bH (bN (bI h (bx (c7 (bG tZ) A_ A_ ["top"] (cI (bJ wn bA)) (d_ (i:=0)) cC (bL cQ wn (bJ wa bA))) (bx (bL cQ (bJ wn bA) (bJ we bA)) bC))))) ?_;rintro _ R ⟨r,c,rfl,a,b,e,q⟩;have:=c.den_pos;have g:((c.den:Nat):Int).natAbs<=NN:=e.d;refine⟨by rw[ak];exact aL b wf,comp_map L2.T.int (λt=>.int (t*c.num)) r.1 (λt j N M k=>⟨⟨da (a.top t j),da e.n⟩,k⟩) ⟨⟨da a.bot,da g⟩,ju r (pr c),?_,XZ a.pos (show(0:Int)<(c.den:Nat)by lia),ls (lu a.bot g),by show(r.1.map _).length<=1000;rw[ak];exact b,q⟩⟩;show _=[L2.T.lst ((r.1.map λt=>t*c.num).map L2.T.int),.int (r.2*c.den)];rw[WJ]
 rfl
def IV:ST:=λa q=>∃(r o:c3)(c:Rat),a=[b' r,b' o,aa c]/\Big NN r/\Big NN o/\r.1.length<=1000/\o.1.length=r.1.length/\Fn c/\q (.fz (b' (jA (pQ r o (pr c)))))
def Vt(F:Fun K ud ud vR f G)(T:Txt K mg D)(z:ag P w K mg base 1 jU cT oY)(v:ag P w K mg base 2 uV rE Hj):bW P w K mg base ab 3 f G pR (am K IV):=by
 refine F.okT I8 (λ_ _=>bF (bO 3 (bL cQ (bJ we bA) (bJ wa bA)))
  (bF (bO 4 (bI z (bx (bJ wn bA) (bx wP bC))))
  (bF (bO 5 (bL o7 wP wE))
  (bF (bO 6 (bL cQ (bL o7 (bJ wn bA) wE) (bJ wa bA)))
  (bF (qK (bG vR) DY DY ["one","another"] (Ah T.I9 (bx (bJ wn bA) (bx (bJ we bA) bC))) (fK (n:=2) (bT (d_ (i:=0)) (bT (d_ (i:=1)) dN))) cC (bL dg (bL cQ wn (qv 7)) (bL cQ we (qv 8))) (mC (i:=7) I8.nd rfl (Or.inl rfl)))
  (bH (bN (bI v (bx (qv 7) (bx (bL cQ (bJ wn bA) (qv 5)) bC)))))))))) ?_
 rintro _ R ⟨r,o,c,rfl,b,g,x,k,h,q⟩;have:=c.den_pos;have u:((c.den:Nat):Int).natAbs<=NN:=h.d;have m:0<o.2*(c.den:Int):=XZ g.pos wp;have A:=lu g.bot u;have e:=pC (a:=r.2) (WP m);have gr:((Int.gcd r.2 (o.2*(c.den:Int)):Nat):Int)≠0:=by exact WP e
 have B:Int.gcd r.2 (o.2*(c.den:Int))<=r.2.natAbs:=UX (by have:=b.pos;omega) (Int.gcd_dvd_natAbs_left ..);have s:Bd ((Int.gcd r.2 (o.2*(c.den:Int)):Nat):Int):=da (by have:=b.bot;lia);have j:(o.2*(c.den:Int)/((Int.gcd r.2 (o.2*(c.den:Int)):Nat):Int)).natAbs<=NN*NN:=aL (Int.natAbs_ediv_le_natAbs _ _) A;have t:(r.2/((Int.gcd r.2 (o.2*(c.den:Int)):Nat):Int)).natAbs<=NN:=aL (Int.natAbs_ediv_le_natAbs _ _) b.bot;refine⟨⟨da g.bot,da u⟩,_,_,rfl,⟨gr,s⟩,⟨gr,s⟩,⟨by rw[vf e];exact da t,da h.n⟩,?_⟩;rw[vf e,vf e];refine⟨by unfold xX;rw[ak,VZ,ak,ak,k,UV];exact aL x wf,?_⟩;rw[zip_map];refine comp_map (λp=>.tup [.int p.1,.int p.2]) (λp=>.int (p.1*(o.2*(c.den:Int)/((Int.gcd r.2 (o.2*(c.den:Int)):Nat):Int))+p.2*(r.2/((Int.gcd r.2 (o.2*(c.den:Int)):Nat):Int)*c.num))) (r.1.zip o.1) (λp l N M y=>⟨rfl,⟨da (b.top _ (VX l).1),ls j⟩,⟨da (g.top _ (VX l).2),ls (lu t h.n)⟩,y⟩) ⟨⟨da b.bot,ls j⟩,pQ r o (pr c),?_,?_,n' ?_,?_,q⟩
 .show _=[L2.T.lst ((zipWith _ r.1 o.1).map L2.T.int),_];rw[map_zipWith,List.zip,map_zipWith]
  rfl
 .exact XZ b.pos (l6 m (XY e) (QR ..))
 .rw[Nat.mul_assoc];exact lu b.bot j
 .show(zipWith _ r.1 o.1).length<=1000;rwa[JP,k,UV]
open Rw (vr jA ju pQ ba iT iK uy oA Big rP lN pA mG pJ gJ)
inductive ii where
 |swap (i j:Nat)|times (i:Nat) (c:Rat)|add (i j:Nat) (c:Rat)
def gL:ii->T
 |.swap i j=>.tup [.str "swap",.int i,.int j]
 |.times i c=>.tup [.str "times",.int i,aa c]
 |.add i j c=>.tup [.str "add",.int i,.int j,aa c]
def ac(u:xl)(i:Nat):c3:=u.getD i ([],1)
def yD(u:xl):ii->xl
 |.swap i j=>(u.set i (ac u j)).set j (ac u i)
 |.times i c=>u.set i (jA (ju (ac u i) (pr c)))
 |.add i j c=>u.set i (jA (pQ (ac u i) (ac u j) (pr c)))
def BQ(n:Nat):ii->Prop
 |.swap i j=>i<n/\j<n
 |.times i c=>i<n/\Fn c
 |.add i j c=>i<n/\j<n/\Fn c
def Bm{u:xl}(h:i<u.length):u[i]?=some (ac u i):=by
 unfold ac;rw[au,aj h];rfl
def fJ{u:xl}(h:i<u.length):ac u i∈u:=aC (Bm h)
def Dr(h:i<n):c6 n ((i:Nat):Int)=some i:=by
 unfold c6;rw[ZY (WZ _),ZY wp];rfl
def xJ{u:xl}(h:i<u.length):ca (u.map b') ((i:Nat):Int)=some (b' (ac u i)):=jw (Bm h)
structure Rws(u:xl)(O:Nat):Prop where
 big:∀r∈u,Big NN r
 wds:∀r∈u,r.1.length=O
 few:u.length<=100
 wde:O<=1000
def Es:SO:=λc b R=>∃(u:xl)(a:ii)(O:Nat),c=[u.map b']/\b=[gL a]/\Rws u O/\BQ u.length a/\R [(yD u a).map b']
def Ul(F:Fun K qU qU yJ f G)(T:Txt K mg D)(r:ag P w K mg base 3 qW nP Gk)(I:ag P w K mg base 3 ud pR IV):bW P w K mg base ab 4 f G oM (eg K Es):=by
 refine F.okO TY (λC t R ⟨u,l,O,B,z,_⟩=>by rw[B,z];rfl) wf λM A e s H E o J=>?_;refine⟨_,(bF (bO 2 (uK 0 (bJ we bA)))
  (bH (cG (cj (yA o.units) (bJ we bA) wO)
  (bF (Hr 0 (uK 0 (bJ we bA)) (bJ we bA))
  (bH (Hr 0 wa (bJ we bA))))
  (bH (cG (cj (yA o.units) (bJ we bA) wO)
  (bH (Hr 0 (bI r (bx wa (bx (bJ we bA) bC))) (bJ we bA)))
  (bH (Hr 0 (bI I (bx wa (bx (uK 0 (bJ we bA)) (bx (bJ we bA) bC)))) (bJ we bA)))))))),?_⟩
 rintro p C t R v ⟨u,l,O,rfl,rfl,h,b,q⟩;obtain⟨a,rfl⟩ : ∃a,p=[a]:=by
  match p,v with
  |[a],_=>exact⟨a,rfl⟩
 have g:∀(L:List L2.T)(x y:OT),R [L]->∃k,(∀j,slot [.la a L,x,y] j=slot (zipWith OT.la [a] k) j\/[a].length<=j)/\k.length=[a].length/\R k:=λL x y q=>⟨[L],λj=>by
  cases j with
  |zero=>exact .inl rfl
  |succ j=>exact .inr wr,rfl,q⟩
 have d:(u.map b').length=u.length:=ak _
 match l,b,q with
 |.swap i j,b,q =>
  refine⟨_,xJ b.1,_,xJ b.2,i,Dr (d ▸ b.1),j,Dr (by rw[VT,d];exact b.2),g _ _ _ ?_⟩;rw[yD,map_set,map_set]at q;exact q
 |.times i c,b,q =>
  have m:=fJ b.1;refine⟨_,xJ b.1,ac u i,c,rfl,h.big _ m,by rw[h.wds _ m];exact h.wde,b.2,i,Dr (d ▸ b.1),g _ _ _ ?_⟩;rw[yD,map_set]at q;exact q
 |.add i j c,b,q =>
  have m:=fJ b.1;have n:=fJ b.2.1;refine⟨_,xJ b.1,_,xJ b.2.1,ac u i,ac u j,c,rfl,h.big _ m,h.big _ n,by rw[h.wds _ m];exact h.wde,by rw[h.wds _ m,h.wds _ n],b.2.2,i,Dr (d ▸ b.1),g _ _ _ ?_⟩;rw[yD,map_set]at q;exact q
open Rw (vr jA ju pQ ba iT iK uy oA Big rP lN pA mG pJ gJ)
def xu:ST:=λa q=>∃(r:c3)(k:Nat),a=[b' r,.int k]/\k<r.1.length/\Big NN r/\q (.fz (aa (vr r k)))
def Ud(F:Fun K nM nM zm f G)(Z:ag P w K mg base 2 pZ mZ vm):bW P w K mg base ab 3 f G jZ (am K xu):=by
 refine F.okT Uh (λ_ _=>bH (bN (bI Z (bx (bJ (bJ wn bA) we) (bx (bJ wn bA) bC))))) ?_;rintro _ R ⟨r,k,rfl,b,a,q⟩;have c:=a.pos;refine⟨_,jw (aj b),_,_,rfl,by exact WP c,da a.bot,λx y l=>?_⟩;rw[kE l (WP c),UQ];unfold vr at q;rw[au,aj b]at q;exact q
def xT:ST:=λa q=>∃(u:xl)(O:Nat),a=[.lst (u.map b')]/\Rws u O/\q (.l1 (u.map λr=>.lst ((range O).map λk=>aa (vr r k))))
def Jz(F:Fun K mq mq jH f G)(Z:ag P w K mg base 2 pZ mZ vm):bW P w K mg base ab 3 f G iZ (am K xT):=by
 refine F.okT Jw (λ_ _=>bH (bN (ZO (bG jH) jP jP "row" (cI wn) Do cC (Zq (bG jH) ("row"::jP) ("row"::jP) ["top"] (cI (bJ wn bA)) (d_ (i:=0)) cC (bI Z (bx wn (bx (bJ we bA) bC))))))) ?_;rintro _ R ⟨u,O,rfl,h,q⟩;refine⟨by rw[ak];exact aL h.few wf,comp_map b' (λr=>.lst ((range O).map λk=>aa (vr r k))) u (λr a N M g=>⟨by rw[ak,h.wds r a];exact aL h.wde wf,?_⟩) q⟩;have b:=h.big r a;have d:=b.pos;refine comp_map T.int (λt=>aa ((t:Rat)/(r.2:Rat))) r.1 (λt j N M g=>⟨_,_,rfl,by exact WP d,da b.bot,λx y l=>by rwa[kE l (WP d),UQ]⟩) ?_;have e:(r.1.map λt:Int=>aa ((t:Rat)/(r.2:Rat)))=(range O).map λk=>aa (vr r k):=by
  refine TK (by rw[ak,ak,WH,h.wds r a]) λn c m=>?_;rw[ak]at c;rw[UR,UR,Q2];unfold vr;rw[au,aj c]
  rfl
 rwa[e]
def EH{lo:Nat}{t:T}(e:(rng (lo:Nat) n)[i]?=some t):i<n/\t=.int ((lo+i:Nat):Int):=by
 unfold rng at e;rw[aq]at e;by_cases a:i<n
 .rw[Up a]at e;cases e;exact⟨a,rfl⟩
 .rw[aM (by simpa using a)]at e;cases e
def DZ{r:c3}(h:0<r.2)(a:k<r.1.length):vr r k=0↔r.1[k]=0:=by
 have e:vr r k=(r.1[k] : Rat)/(r.2:Rat):=by unfold vr;rw[au,aj a];rfl
 have n:(r.2:Rat)≠0:=λz=>by have:=Rat.intCast_eq_zero_iff.mp z;lia
 rw[e];constructor
 .intro z;have:(r.1[k] : Rat)=0:=by grind
  exact Rat.intCast_eq_zero_iff.mp this
 .intro z;rw[z];grind
def CT:ST:=λa R=>∃(u:xl)(O p k:Nat),a=[.lst (u.map b'),.int p,.int k]/\Rws u O/\p<=u.length/\k<O/\(∀q,p<=q->q<u.length->vr (ac u q) k≠0->R (.fz (.int q)))/\((∀i,p<=i->i<u.length->vr (ac u i) k=0)->R (.fz .non))
def Oo(F:Fun K pq pq xP f G)(T:Txt K mg D):bW P w K mg base ab 1 f G lV (am K CT):=by
 refine F.okT OJ (λv _=>bF (eV (Bg T.gF (bx we (bx (bY eG T.gk VY (bx wn bC)) bC))) (cB (n:=99) 3)
  (bH (cG (cj (qG v.units) (bJ (bJ (bJ wn wP) bA) wa) bA)
  (bH (bN wP))
  bQ)))
  (bH (bN iD))) ?_
 rintro _ R ⟨u,O,p,k,rfl,h,C,E,q,s⟩;have a:∀i,i<u.length->k<(ac u i).1.length:=λi l=>by rwa[h.wds _ (fJ l)]
 have A:=h.few;have r:(u.map b').length=u.length:=ak _;refine⟨⟨by lia,by lia,by lia,by lia⟩,Fp (λi o=>∃x,o=[.fz (.lst (u.map b')),.fz (.int p),.fz (.int k),x]/\∀j,p<=j->j<p+i->vr (ac u j) k=0) _ 0 ⟨_,rfl,λj _ _=>by lia⟩ (λi t o e z=>?_) λo z=>?_⟩
 .obtain⟨l,rfl⟩:=EH e;rw[r]at l;have b:p+i<u.length:=by omega
  obtain⟨x,rfl,d⟩:=z;have m:=DZ (h.big _ (fJ b)).pos (a _ b);refine⟨_,xJ b,_,jw (aj (a _ b)),?_⟩;by_cases c:(ac u (p+i)).1[k]'(a _ b)=0
  .refine dz (by show xr true (decide (_=_))=false;rw[Zs c];rfl) ⟨_,rfl,λj g y=>?_⟩;by_cases B:j=p+i
   .rw[B];exact m.mpr c
   .exact d j g wp
  .exact fh (by show xr true (decide (_=_))=true;rw[Zp c];rfl) (q _ (X9 _ _) b λz=>c (m.mp z))
 .obtain⟨x,rfl,d⟩:=z;refine s λj g y=>d j g ?_;unfold rng;rw[ak,WH,r];lia
def Mh:SO:=λd c R=>∃(u:xl)(b:xj)(a:ii)(O:Nat),d=[u.map b',b]/\c=[gL a]/\Rws u O/\BQ u.length a/\b.length<sizeLine/\R [(yD u a).map b',b++[gL a]]
def acK(F:Fun K yq yq T6 f G)(i:dL P w K mg base 4 qU oM (eg K Es)):bW P w K mg base ab 5 f G uT (eg K Mh):=by
 refine F.okO _x (λr k R ⟨u,e,c,O,p,o,_⟩=>by rw[p,o];rfl) wf λx A d s H E v t=>?_;refine⟨_,(bF (NW 0 i (bx wa bC))
  (bH (uG 1 wa))),?_⟩
 rintro g r k R l ⟨u,e,c,O,rfl,rfl,h,m,n,q⟩;obtain⟨a,b,rfl⟩ : ∃a b,g=[a,b]:=by
  match g,l with
  |[a,b],_=>exact⟨a,b,rfl⟩
 refine⟨u,c,O,rfl,rfl,h,m,n,[(yD u c).map b',e++[gL c]],λj=>?_,rfl,q⟩
 match j with
 |0=>exact .inl rfl
 |1=>exact .inl rfl
 |j+2=>exact .inr wr
open Rw (vr jA ju pQ ba iT iK uy oA Big rP lN pA mG pJ gJ)
def J7{u:xl}{r:c3}(h:i<u.length)(j:Nat):ac (u.set i r) j=if j=i then r else ac u j:=by
 unfold ac;rw[au,au,List.getElem?_set];by_cases e:i=j
 .subst e;rw[ZY rfl,ZY rfl,ZY h];rfl
 .rw[ZZ e,ZZ (Ne.symm e)]
def Fn.of{a:Int}(d:b≠0)(i:a.natAbs<=NN)(k:b.natAbs<=NN):Fn (divInt a b):=by
 have j:=l5 a d;have f:∃x y,ml a b x y:=by
  rcases Int.lt_or_lt_of_ne d with z|z
  .exact⟨_,_,z9 (c:=-((Int.gcd a b:Nat):Int)) d wp wp (Int.mul_pos_of_neg_of_neg wp z)⟩
  .exact⟨_,_,z9 (c:=((Int.gcd a b:Nat):Int)) d wp wp (XZ wp z)⟩
 obtain⟨x,y,l⟩:=f;have e:=kE l d;injection e with e;injection e with g e;injection e with h e;injection g with g;injection h with h;exact⟨by rw[<- g];exact aL l.lx i,by have:=l.ly;lia⟩
def EF{r:c3}(a:k<r.1.length):vr r k=divInt r.1[k] r.2:=by
 unfold vr;rw[au,aj a,UQ];rfl
def Fn.vr{r:c3}{k:Nat}(h:Big NN r)(a:k<r.1.length):Fn (vr r k):=by
 have:=h.pos;rw[EF a];exact Fn.of (WP this) (h.top _ (aU _)) h.bot
def Fn.inv(h:Fn c)(b:c≠0):Fn (1/c):=by
 have a:c.num≠0:=λz=>b (by rw[<- rd c,z];exact QP _);rw[div_def,Rat.one_mul,Rat.inv_def];exact Fn.of a h.d h.n
def Fn.neg(h:Fn c):Fn (0-c):=by
 rw[sub_eq_add_neg,Rat.zero_add];exact⟨by show(-c.num).natAbs<=NN;rw[natAbs_neg];exact h.n,h.d⟩
def Fn.bq(h:Fn c):Bq c:=⟨da h.n,da h.d⟩
def Rws.fn{u:xl}(h:Rws u O)(a:i<u.length)(b:k<O):Fn (Rw.vr (ac u i) k):=Fn.vr (h.big _ (fJ a)) (by rwa[h.wds _ (fJ a)])
def Rws.of{u b:xl}(h:Rws u O)(d:b.length=u.length)(f:∀i,i<u.length->Big NN (ac b i)/\(ac b i).1.length=O):Rws b O:=by
 have:∀r∈b,Big NN r/\r.1.length=O:=λr a=>by
  obtain⟨i,c,g⟩:=List.getElem_of_mem a;have e:=Bm c;rw[aj c,g]at e;injection e with e;rw[e];exact f i (d ▸ c)
 exact⟨λr a=>(this r a).1,λr a=>(this r a).2,d ▸ h.few,h.wde⟩
def Ls(u:xl)(a:ii):(yD u a).length=u.length:=by cases a<;>simp[yD]
def fx(r:c3)(k:Nat):c3:=if vr r k=1 then r else jA (ju r (pr (1/vr r k)))
def k9(u:xl)(p q k i:Nat):c3:=if i=p then fx (ac u q) k else ac u (Rw.sw p q i)
def eK(u:xl)(p q:Nat):xl:=if q=p then u else yD u (.swap p q)
def _2(u:xl)(p q:Nat):(eK u p q).length=u.length:=by
 unfold eK;split
 .rfl
 .exact Ls _ _
def OQ{u:xl}{p q:Nat}(a:p<u.length)(b:q<u.length)(i:Nat):ac (eK u p q) i=ac u (Rw.sw p q i):=by
 unfold eK Rw.sw;by_cases e:q=p
 .subst e;rw[ZY rfl];by_cases c:i=q
  .rw[ZY c,c]
  .rw[ZZ c,ZZ c]
 .rw[ZZ e];show ac ((u.set p (ac u q)).set q (ac u p)) i=_;rw[J7 (by rwa[VT]),J7 a];by_cases c:i=q
  .subst c;rw[ZY rfl,ZZ e,ZY rfl]
  .rw[ZZ c];by_cases d:i=p
   .rw[ZY d,ZY d]
   .rw[ZZ d,ZZ d,ZZ c]
def GX:SO:=λe d R=>∃(u:xl)(a:xj)(O p q k:Nat),e=[u.map b',a]/\d=[.int p,.int q,.int k]/\Rws u O/\p<u.length/\q<u.length/\k<O/\vr (ac u q) k≠0/\a.length+2<sizeLine /\
 ∀b c,b.length=u.length->(∀i,i<u.length->ac b i=k9 u p q k i)->c.length<=a.length+2->R [b.map b',c]
def SV{x y:RS}{E:DT}(J:xy->Prop)(k:∀a,J a->y E a)(h:(∀a,J a->y E a)->oO x y E o):oO x y E o:=h k
def sn(v u:Rat):(decide (v.num=u.num)&&decide (((v.den:Nat):Int)=u.den))=decide (v=u):=by
 rw[<- Bool.decide_and];refine decide_eq_decide.mpr ⟨λ⟨a,b⟩=>Rat.ext a wp,λz=>by rw[z];exact⟨rfl,rfl⟩⟩
def g9{R:wb->Prop}{a b:Addr}(L M:xj)(q:R [L,M]):∃c,(∀j,slot (.la a L::.la b M::o) j=slot (zipWith OT.la [a,b] c) j\/[a,b].length<=j)/\c.length=[a,b].length/\R c:=⟨[L,M],λj=>by
 match j with
 |0=>exact .inl rfl
 |1=>exact .inl rfl
 |j+2=>exact .inr wr,rfl,q⟩
def Ev{d:Type}{c:List Q}{x y:d}(e : [x,y].length=c.length):∃a b,c=[a,b]:=by
 match c,e with
 |[a,b],_=>exact⟨a,b,rfl⟩
def T3(F:Fun K qL qL yr f G)(T:Txt K mg D)(I:dL P w K mg base 5 yq uT (eg K Mh))(Y:ag P w K mg base 3 nM jZ xu)(U:ag P w K mg base 3 Bh wV J9):bW P w K mg base ab 6 f G n6 (eg K GX):=by
 refine F.okO QH (λaw V R ⟨u,d,O,p,q,k,e1,e2,_⟩=>by rw[e1,e2];rfl) wf λae A z s H E r nd=>?_;refine⟨_,(bF (cG (cj (qG r.units) wP wa)
  (bH (M6 0 1 I r.md (by rfl) (bx (dh (bx wO (bx wa (bx wP bC)))) bC)))
  bQ)
  (bF (bO 5 (bI Y (bx (uK 0 wa) (bx wE bC))))
  (bH (cG (cj (qG r.units) (qv 5) (lG T.Ei T.w6))
  (bH (M6 0 1 I r.md (by rfl) (bx (dh (bx wO (bx wa (bx (bI U (bx (lG T.Ei T.w6) (bx (qv 5) bC))) bC)))) bC)))
  bQ)))),?_⟩
 rintro as aw V R W ⟨u,d,O,p,q,k,rfl,rfl,h,N,C,Z,Q,hl,L⟩;obtain⟨a,b,rfl⟩:=Ev W;have J:=_2 u p q;have l:=OQ N C;have B:Rw.sw p q p=q:=ZY rfl;have j:∀i,i<u.length->Rw.sw p q i<u.length:=λi m=>by
  unfold Rw.sw;split
  .exact C
  .split<;>omega
 have t:Rws (eK u p q) O:=h.of J λi m=>by rw[l];exact⟨h.big _ (fJ (j i m)),h.wds _ (fJ (j i m))⟩
 refine SV (λo=>∃y,o=[.la a ((eK u p q).map b'),.la b y,.fz (.int p),.fz (.int q),.fz (.int k),.und]/\y.length<=d.length+1) ?_ λS=>?_
 .rintro _ ⟨y,rfl,M⟩;have g:p<(eK u p q).length:=by lia
  have X:k<(ac (eK u p q) p).1.length:=by rwa[t.wds _ (fJ g)]
  have x:=t.fn g Z;refine⟨_,xJ g,_,k,rfl,X,t.big _ (fJ g),?_⟩;have v:vr (ac (eK u p q) p) k=vr (ac u q) k:=by rw[l,B]
  rw[v];rw[v]at x;by_cases e:vr (ac u q) k=1
  .refine dz (by show xr true (_&&_)=false;rw[show(decide ((vr (ac u q) k).num=1)&&decide (((vr (ac u q) k).den:Int)=1))=_ from sn _ 1,Zs e];rfl) (g9 _ _ (L _ _ J (λi m=>?_) (aL M (Xs _))));rw[l];unfold k9 fx;split
   .rename_i c;rw[c,B]
   .rfl
  .refine fh (by show xr true (_&&_)=true;rw[show(decide ((vr (ac u q) k).num=1)&&decide (((vr (ac u q) k).den:Int)=1))=_ from sn _ 1,Zp e];rfl) ⟨1,_,rfl,Q,hh,x.bq,by show Bd (1*_);rw[JJ];exact da x.n,eK u p q,y,.times p (1/vr (ac u q) k),O,rfl,rfl,t,⟨g,x.inv Q⟩,by lia,g9 _ _ (L _ _ (by rwa[Ls]) (λi m=>?_) (by rw[aA];show _+1<=_;exact succ_le_succ M))⟩;show ac ((eK u p q).set p _) i=_;rw[J7 g,l,l,B];unfold k9 fx;split
   .rfl
   .rfl
 .by_cases e:q=p
  .refine dz (by show xr true (decide (_=_))=false;rw[Zs wp];rfl) (S [.la a (u.map b'),.la b d,.fz (.int p),.fz (.int q),.fz (.int k),.und] ⟨d,?_,by exact Xs _⟩);unfold eK;rw[ZY e]
  .refine fh (by show xr true (decide (_=_))=true;rw[Zp wp];rfl) ⟨u,d,.swap p q,O,rfl,rfl,h,⟨N,C⟩,by lia,S [.la a ((yD u (.swap p q)).map b'),.la b (d++[gL (.swap p q)]),.fz (.int p),.fz (.int q),.fz (.int k),.und] ⟨d++[gL (.swap p q)],?_,by simp⟩⟩;unfold eK;rw[ZZ e]
open Rw (vr jA ju pQ ba iT iK uy oA Big rP lN pA mG pJ gJ)
def bE(u:xl)(p k i:Nat):c3:=if i=p\/vr (ac u i) k=0 then ac u i else jA (pQ (ac u i) (ac u p) (pr (0-vr (ac u i) k)))
def xU:SO:=λe d R=>∃(u:xl)(a:xj)(O p k:Nat),e=[u.map b',a]/\d=[.int p,.int k]/\Rws u O/\p<u.length/\k<O/\a.length+u.length<sizeLine/\(∀i,i<u.length->Big NN (bE u p k i)) /\
 ∀b c,b.length=u.length->(∀i,i<u.length->ac b i=bE u p k i)->c.length<=a.length+u.length->R [b.map b',c]
def _1{u:xl}{p:Nat}(h:Rws u O)(b:p<u.length)(a:i<u.length):(bE u p k i).1.length=O:=by
 unfold bE;split
 .exact h.wds _ (fJ a)
 .rw[mG];show(zipWith _ (ac u i).1 (ac u p).1).length=O;rw[JP,h.wds _ (fJ a),h.wds _ (fJ b),UV]
def Jp(F:Fun K mH mH rN f G)(T:Txt K mg D)(X:dL P w K mg base 5 yq uT (eg K Mh))(mQ:ag P w K mg base 3 nM jZ xu)(iR:ag P w K mg base 3 pL nG u9):bW P w K mg base ab 6 f G jd (eg K xU):=by
 refine F.okO Jl (λaw Y R ⟨u,C,O,p,k,e1,e2,_⟩=>by rw[e1,e2];rfl) wf λae A J s H E L nd=>?_;refine⟨_,(bH (eV (fM T.gF (bx (Nf 0 (bY eG T.gk VY (bx wn bC))) bC)) (cB (n:=99) 4)
  (bH (cG (QW.qt (Te (cj (qG L.units) wE wa) (Rk (cj (qG L.units) (bJ (bJ (uK 0 wE) bA) wP) bA))))
  (bF (bO 5 (bI iR (bx (lG T.iY T.gC) (bx (bI mQ (bx (uK 0 wE) (bx wP bC))) bC))))
  (bH (M6 0 1 X L.md (by rfl) (bx (dh (bx wO (bx wE (bx wa (bx (qv 5) bC))))) bC))))
  bQ)))),?_⟩
 rintro as aw Y R Z ⟨u,C,O,p,k,rfl,rfl,h,W,hk,hl,hb,ok⟩;obtain⟨a,b,rfl⟩:=Ev Z;have V:(u.map b').length=u.length:=ak _;have few:=h.few;refine⟨trivial,⟨by lia,by lia⟩,Aw (λn o=>∃g m x y,o=[.la a (g.map b'),.la b m,.fz (.int p),.fz (.int k),x,y]/\g.length=u.length/\(∀i,i<u.length->ac g i=if i<n then bE u p k i else ac u i)/\m.length<=C.length+n) ⟨u,C,_,_,rfl,rfl,λi _=>by rw[ZZ (WU _)],aG _⟩ ?_ ?_⟩
 .rintro n _ M ⟨g,m,x,y,rfl,v,r,U⟩;have M:n<u.length:=by rw[V]at M;lia
  have I:ac g n=ac u n:=by rw[r n M,ZZ (Wp _)]
  have rp:ac g p=ac u p:=by
   rw[r p W];split
   .unfold bE;rw[ZY (.inl rfl)]
   .rfl
  have B:Rws g O:=h.of v λi j=>by
   rw[r i j];split
   .exact⟨hb i j,_1 h W j⟩
   .exact⟨h.big _ (fJ j),h.wds _ (fJ j)⟩
  have q:bE u p k n=ac u n->∀i,i<u.length->ac g i=if i<n+1 then bE u p k i else ac u i:=λe i j=>by
   rw[r i j];by_cases c:i=n
   .subst c;rw[ZZ (Wp _),ZY (X2 _),e]
   .by_cases d:i<n
    .rw[ZY d,ZY (WS _ d)]
    .rw[ZZ d,ZZ wp]
  by_cases e:n=p
  .exact dz (by show xr true (decide (_=_))=false;rw[Zs wp];rfl) ⟨g,m,_,_,rfl,v,q (ZY (.inl e)),by lia⟩
  .have t:n<g.length:=by lia
   have l:k<(ac g n).1.length:=by rwa[B.wds _ (fJ t)]
   have S:=DZ (B.big _ (fJ t)).pos l;refine fh (by show xr true (decide (_=_))=true;rw[Zp wp];rfl) ⟨_,xJ t,_,jw (aj l),?_⟩;by_cases c:(ac g n).1[k]'l=0
   .exact dz (by show xr true (decide (_=_))=false;rw[Zs c];rfl) ⟨g,m,_,_,rfl,v,q (ZY (.inr (by rw[<- I];exact S.mpr c))),by lia⟩
   .have N:=B.fn t hk;refine fh (by show xr true (decide (_=_))=true;rw[Zp c];rfl) ⟨_,xJ t,_,k,rfl,l,B.big _ (fJ t),0,_,rfl,k8,N.bq,by show Bd (1*_);rw[JJ];exact da N.d,g,m,.add n p (0-vr (ac g n) k),O,rfl,rfl,B,⟨t,by lia,N.neg⟩,by lia,yD g (.add n p (0-vr (ac g n) k)),m++[gL (.add n p (0-vr (ac g n) k))],_,_,rfl,by rw[Ls];exact v,λi j=>?_,by rw[aA];show _+1<=_;lia⟩;show ac (g.set n _) i=_;rw[J7 t,I,rp];by_cases d:i=n
    .rw[ZY d,d,ZY (X2 _)];unfold bE;rw[ZZ λz=>z.elim e λz=>c (S.mp (by rw[I];exact z))]
    .rw[ZZ d,r i j];by_cases Q:i<n
     .rw[ZY Q,ZY (WS _ Q)]
     .rw[ZZ Q,ZZ wp]
 .rintro _ ⟨g,m,x,y,rfl,v,r,U⟩;rw[V]at r U;exact g9 _ _ (ok g m v (λi j=>by rw[r i j,ZY wp]) wp)
open Rw (vr jA ju pQ ba iT iK uy oA Big rP lN pA mG pJ gJ sg iu gq bZ iU jt)
def D'(c:Rat):(((pr c).1:Int):Rat)/(((pr c).2:Int):Rat)=c:=by rw[<- UQ];exact rd c
def Uq(c:Rat):0<(pr c).2:=by have:=c.den_pos;show(0:Int)<(c.den:Nat);lia
def Zd{r:c3}(h:0<r.2):0<(jA r).2:=l6 h (XY (iT h)) iK.1
def OP{r:c3}(h:0<r.2)(b:vr r k≠0):0<(fx r k).2/\(fx r k).1.length=r.1.length/\(ba (fx r k).1 (fx r k).2=1\/fx r k=r)/\∀j,vr (fx r k) j*vr r k=vr r j:=by
 unfold fx;by_cases e:vr r k=1
 .rw[ZY e];exact⟨h,rfl,.inr rfl,λj=>by rw[e,Rat.mul_one]⟩
 .rw[ZZ e];have a:0<(ju r (pr (1/vr r k))).2:=XZ h (Uq _);refine⟨Zd a,by rw[mG];unfold ju;rw[ak],.inl (oA a),λj=>?_⟩;rw[rP a,lN h (Uq _),D']
  grind
def SK{u:xl}{p:Nat}(a:0<(ac u i).2)(c:0<(ac u p).2)(f:(ac u i).1.length=(ac u p).1.length):0<(bE u p k i).2/\(ba (bE u p k i).1 (bE u p k i).2=1\/bE u p k i=ac u i)/\∀j,vr (bE u p k i) j=if i=p then vr (ac u p) j else vr (ac u i) j-vr (ac u i) k*vr (ac u p) j:=by
 unfold bE;by_cases e:i=p
 .rw[ZY (.inl e)];exact⟨a,.inr rfl,λj=>by rw[ZY e,e]⟩
 .by_cases z:vr (ac u i) k=0
  .rw[ZY (.inr z)];exact⟨a,.inr rfl,λj=>by rw[ZZ e,z];grind⟩
  .rw[ZZ λy=>y.elim e z];have b:0<(pQ (ac u i) (ac u p) (pr (0-vr (ac u i) k))).2:=by
    have d:=XZ c (Uq (0-vr (ac u i) k));exact XZ a (l6 d (XY (pC (WP d))) (QR _ _))
   refine⟨Zd b,.inl (oA b),λj=>?_⟩;rw[rP b,pA a c (Uq _) f,D',ZZ e]
   grind
structure FnB(M:Nat)(c:Rat):Prop where
 n:c.num.natAbs<=M
 d:c.den<=M
def FnB.vr{M:Nat}{r:c3}{k:Nat}(h:Big M r)(f:k<r.1.length):FnB M (Rw.vr r k):=by
 have a:=h.pos;have g:=l5 r.1[k] (WP a);have l:=z9 (t:=r.1[k]) (c:=((Int.gcd r.1[k] r.2:Nat):Int)) (WP a) wp wp (XZ wp a);have e:=kE l (WP a);rw[EF f];injection e with e;injection e with b e;injection e with d e;injection b with b;injection d with d;exact⟨by rw[<- b];exact aL l.lx (h.top _ (aU _)),by have:=l.ly;have:=h.bot;omega⟩
structure B0(E:xl)(O N:Nat):Prop where
 big:∀i,i<E.length->Big N (ac E i)/\(ac E i).1.length=O
 one:1<=N
 mb:(2*E.length*N)^E.length<=NN
 nn:N<=NN
abbrev aT(E:xl)(i j:Nat):Int:=(ac E i).1.getD j 0
abbrev aB(E:xl)(i:Nat):Int:=(ac E i).2
structure Gs(E:xl)(O N c:Nat)(u:xl):Prop where
 len:u.length=E.length
 row:∀i,i<E.length->0<(ac u i).2/\(ac u i).1.length=O/\(ba (ac u i).1 (ac u i).2=1\/Big N (ac u i))
 st:∃pv s,gJ (aT E) (aB E) E.length O (λi j=>vr (ac u i) j) c pv s
 unit:∀i l,i<E.length->l<c->vr (ac u i) l=if i=l then 1 else 0
 ker:∀x:Nat->Rat,(∀i,i<E.length->sg (λj=>vr (ac u i) j*x j) O=0)->∀i,i<E.length->sg (λj=>vr (ac E i) j*x j) O=0
section
variable{E u:xl}{O N c q:Nat}
def B0.zero(h:B0 E O N):Gs E O N 0 E:=⟨rfl,λi a=>⟨(h.big i a).1.pos,(h.big i a).2,.inr (h.big i a).1⟩,⟨λ_=>0,id,gJ.zero λi a=>(h.big i a).1.pos⟩,λ_ _ _ z=>absurd z (WU _),λ_ z=>z⟩
def HA{N:Nat}(a:1<=m)(b:1<=N):N<=(2*m*N)^m:=by
  have x:N<=2*m*N:=l8 _ wp;have y:1<=2*m*N:=W1 (show 1<=2*m by lia) b
  calc N<=(2*m*N)^1:=by rw[Nat.pow_one];exact x
    _<=_:=XG y a
def B0.sbigM(h:B0 E O N){R:Nat->Nat->Rat}{p:Nat}(c:∃pv s,gJ (aT E) (aB E) E.length O R p pv s)(a:i<E.length){r:c3}(n:0<r.2)(m:r.1.length=O)(g:ba r.1 r.2=1\/Big N r)(e:∀j,j<O->vr r j=R i j):Big ((2*E.length*N)^E.length) r:=by
 rcases g with g|g
 .obtain⟨pv,s,c⟩:=c;obtain⟨v,u,l,k,f,o⟩:=c.bound h.one (λi j a d=>by
   have b:=h.big i a;show((ac E i).1.getD j 0).natAbs<=N;rw[au,aj (by rwa[b.2])];exact b.1.top _ (aU _)) (λi a=>⟨(h.big i a).1.pos,(h.big i a).1.bot⟩) a
  exact pJ n g m l k f λj d=>by rw[e j d];exact o j d
 .exact g.le (HA wp h.one)
def B0.sbig(h:B0 E O N){R:Nat->Nat->Rat}{p:Nat}(a:∃pv s,gJ (aT E) (aB E) E.length O R p pv s)(d:i<E.length){r:c3}(c:0<r.2)(b:r.1.length=O)(g:ba r.1 r.2=1\/Big N r)(e:∀j,j<O->vr r j=R i j):Big NN r:=(h.sbigM a d c b g e).le h.mb
def Gs.bigM(g:Gs E O N c u)(h:B0 E O N)(a:i<E.length):Big ((2*E.length*N)^E.length) (ac u i):=h.sbigM g.st a (g.row i a).1 (g.row i a).2.1 (g.row i a).2.2 λ_ _=>rfl
def Gs.big(g:Gs E O N c u)(h:B0 E O N)(a:i<E.length):Big NN (ac u i):=h.sbig g.st a (g.row i a).1 (g.row i a).2.1 (g.row i a).2.2 λ_ _=>rfl
def ZV{p q:Nat}(b:p<m)(a:q<m)(c:i<m):Rw.sw p q i<m:=by
 unfold Rw.sw;split
 .exact a
 .split<;>omega
def C0(p q i:Nat):Rw.sw p q (Rw.sw p q i)=i:=by
 unfold Rw.sw;by_cases a:i=p
 .subst a;rw[ZY rfl];by_cases b:q=i
  .rw[ZY b,b]
  .rw[ZZ b,ZY rfl]
 .by_cases b:i=q
  .subst b;rw[ZZ a,ZY rfl,ZY rfl]
  .rw[ZZ a,ZZ b,ZZ a,ZZ b]
def Gs.next(g:Gs E O N c u)(h:B0 E O N)(b:c<E.length)(U:c<O)(S:c<=q)(f:q<E.length)(T:vr (ac u q) c≠0){rs2:xl}(M:∀i,i<E.length->ac rs2 i=k9 u c q c i) :
  (∀i,i<E.length->Big NN (ac rs2 i)/\(ac rs2 i).1.length=O)/\(∀i,i<E.length->Big NN (bE rs2 c c i))/\∀v:xl,v.length=E.length->(∀i,i<E.length->ac v i=bE rs2 c c i)->Gs E O N (c+1) v:=by
 have A:Rw.sw c q c=q:=ZY rfl;obtain⟨Y,X,W,V⟩:=OP (g.row q f).1 T;have L:ac rs2 c=fx (ac u q) c:=by rw[M c b];exact ZY rfl
 have C:∀i,i<E.length->i≠c->ac rs2 i=ac u (Rw.sw c q i):=λi a m=>by rw[M i a];exact ZZ m
 have d:∀i,i<E.length->0<(ac rs2 i).2/\(ac rs2 i).1.length=O/\(ba (ac rs2 i).1 (ac rs2 i).2=1\/Big N (ac rs2 i)):=λi a=>by
  by_cases e:i=c
  .rw[e,L];refine⟨Y,by rw[X];exact(g.row q f).2.1,W.elim .inl λz=>?_⟩;rw[z];exact(g.row q f).2.2
  .rw[C i a e];exact g.row _ (ZV b f a)
 have n:=λi(a:i<E.length)=>SK (u:=rs2) (p:=c) (k:=c) (i:=i) (d i a).1 (d c b).1 (by rw[(d i a).2.1,(d c b).2.1]);have r:∀i,i<E.length->(bE rs2 c c i).1.length=O:=λi a=>by
  unfold bE;split
  .exact(d i a).2.1
  .rw[mG];show(zipWith _ (ac rs2 i).1 (ac rs2 c).1).length=O;rw[JP,(d i a).2.1,(d c b).2.1,UV]
 have t:∀i,i<E.length->ba (bE rs2 c c i).1 (bE rs2 c c i).2=1\/Big N (bE rs2 c c i):=λi a=>(n i a).2.1.elim .inl λz=>by rw[z];exact(d i a).2.2
 have w:∀j,vr (bE rs2 c c c) j*vr (ac u q) c=vr (ac u q) j:=λj=>by
  rw[(n c b).2.2 j,ZY rfl,L];exact V j
 have F:∀i,i<E.length->i≠c->∀j,vr (bE rs2 c c i) j=vr (ac u (Rw.sw c q i)) j-vr (ac u (Rw.sw c q i)) c*vr (bE rs2 c c c) j:=λi a m j=>by
  rw[(n i a).2.2 j,(n c b).2.2 j,ZZ m,ZY rfl,C i a m]
 have D:∃pv s,gJ (aT E) (aB E) E.length O (λi j=>vr (bE rs2 c c i) j) (c+1) pv s:=by
  obtain⟨pv,s,st⟩:=g.st;have P:=st.swap S f (R':=λi j=>vr (ac u (Rw.sw c q i)) j) λi j _ _=>rfl;exact⟨_,_,P.pivot b (λi a=>(h.big i a).1.pos) U (by show vr (ac u (Rw.sw c q c)) c≠0;rwa[A]) (R':=λi j=>vr (bE rs2 c c i) j) (λj _=>by show vr (bE rs2 c c c) j*vr (ac u (Rw.sw c q c)) c=vr (ac u (Rw.sw c q c)) j;rw[A];exact w j) λi j a m _=>F i a m j⟩
 have Q:∀i,i<E.length->Big NN (bE rs2 c c i):=λi a=>h.sbig D a (n i a).1 (r i a) (t i a) λ_ _=>rfl;refine⟨λi a=>⟨?_,(d i a).2.1⟩,Q,λv R o=>⟨R,λi a=>by rw[o i a];exact⟨(n i a).1,r i a,t i a⟩,?_,λi l a K=>?_,λx J=>g.ker x λi a=>?_⟩⟩
 .by_cases e:i=c
  .rw[e];refine h.sbig D b (d c b).1 (d c b).2.1 (d c b).2.2 λj _=>?_;show _=vr (bE rs2 c c c) j;rw[(n c b).2.2 j,ZY rfl]
  .rw[C i a e];exact g.big h (ZV b f a)
 .obtain⟨pv,s,st⟩:=D;exact⟨pv,s,st.congr λi j a=>by rw[o i a]⟩
 .rw[o i a];have H:l<c->vr (bE rs2 c c c) l=0:=λK=>by
   have:=w l;rw[g.unit q l f K,ZZ wp]at this
   grind
  have G:vr (bE rs2 c c c) c=1:=by
   have:=w c
   grind
  by_cases e:i=c
  .subst e;by_cases z:l<i
   .rw[H z,ZZ (UK z)]
   .rw[show l=i by lia,G,ZY rfl]
  .rw[F i a e l];by_cases z:l<c
   .rw[H z,g.unit _ l (ZV b f a) z];have:(Rw.sw c q i=l)=(i=l):=by
     unfold Rw.sw;rw[ZZ e];split
     .exact propext ⟨λ_=>by lia,λ_=>by lia⟩
     .rfl
    simp only[this]
    grind
   .rw[show l=c by lia,G,ZZ e]
    grind
 .have y:=J c b;rw[o c b]at y;by_cases e:i=q
  .rw[e,bZ (g:=λj=>vr (ac u q) c*(vr (bE rs2 c c c) j*x j)) λj _=>by rw[<- w j];grind,gq,y]
   grind
  .have B:=ZV b f a;have m:Rw.sw c q i≠c:=λz=>by
    have:=C0 c q i;rw[z,A]at this;exact e this.symm
   have I:=J _ B;rw[o _ B]at I;rw[bZ (g:=λj=>vr (bE rs2 c c (Rw.sw c q i)) j*x j+vr (ac u i) c*(vr (bE rs2 c c c) j*x j)) λj _=>by rw[F _ B m,C0];grind,iu,gq,y,I]
   grind
def Gs.found(g:Gs E O N c u)(m:c<E.length)(h:c<O)(d:∀x:Nat->Rat,(∀j,E.length<=j->x j=0)->(∀i,i<E.length->sg (λj=>vr (ac E i) j*x j) O=0)->∀j,j<E.length->x j=0):¬∀i,c<=i->i<E.length->vr (ac u i) c=0:=λk=>by
 have:=d (λj=>if j<c then -(vr (ac u j) c)else if j=c then 1 else 0) (λj l=>by rw[ZZ wp,ZZ wp]) (g.ker _ λi f=>?_) c m
 .rw[ZZ (Wp _),ZY rfl]at this;exact absurd this wf
 .rw[bZ (g:=λj=>(if j=i then 1 else 0)*(if j<c then -(vr (ac u j) c)else 0)+(if j=c then 1 else 0)*vr (ac u i) c) λj l=>?_,iu,jt (v:=λj=>if j<c then -(vr (ac u j) c)else 0),jt (v:=λ_=>vr (ac u i) c),ZY h]
  .by_cases e:i<c
   .rw[ZY (UU e h),ZY e]
    grind
   .rw[k i (VS e) f];rw[ZZ e]
    grind
  .by_cases a:j<c
   .rw[ZY a,ZY a,g.unit i j f a,ZZ (show j≠c by exact aQ a)];by_cases b:i=j
    .rw[ZY b,ZY b.symm];grind
    .rw[ZZ b,ZZ (Ne.symm b)];grind
   .rw[ZZ a,ZZ a];by_cases b:j=c
    .rw[ZY b,b];grind
    .rw[ZZ b];grind
def Gs.answer(g:Gs E (E.length+1) N E.length u)(b:i<E.length):sg (λj=>vr (ac E i) j*vr (ac u j) E.length) E.length=vr (ac E i) E.length:=by
 have:=g.ker (λj=>if j<E.length then vr (ac u j) E.length else -1) (λi b=>?_) i b
 .show _=_;rw[show sg (λj=>vr (ac E i) j*(if j<E.length then vr (ac u j) E.length else -1)) (E.length+1)=sg (λj=>vr (ac E i) j*(if j<E.length then vr (ac u j) E.length else -1)) E.length+vr (ac E i) E.length*(if E.length<E.length then vr (ac u E.length) E.length else -1)from rfl,ZZ (Wp _),bZ (g:=λj=>vr (ac E i) j*vr (ac u j) E.length) λj a=>by rw[ZY a]]at this
  grind
 .rw[show sg (λj=>vr (ac u i) j*(if j<E.length then vr (ac u j) E.length else -1)) (E.length+1)=sg (λj=>vr (ac u i) j*(if j<E.length then vr (ac u j) E.length else -1)) E.length+vr (ac u i) E.length*(if E.length<E.length then vr (ac u E.length) E.length else -1)from rfl,ZZ (Wp _),bZ (g:=λj=>(if j=i then 1 else 0)*vr (ac u j) E.length) λj a=>by rw[ZY a,g.unit i j b a];simp only[eq_comm],jt (v:=λj=>vr (ac u j) E.length),ZY b]
  grind
end
open Rw (vr jA ju pQ ba iT iK uy oA Big rP lN pA mG pJ gJ sg iu gq bZ iU jt)
abbrev kI(r:xz):c3:=(tops (b_ 1 r) r,((b_ 1 r:Nat):Int))
abbrev Ky(r:xz):T:=.lst (r.map aa)
def TN(r:xz):(kI r).1.length=r.length:=ak _
def Ms(r:xz)(j:Nat):vr (kI r) j=r.getD j 0:=by
 unfold vr;have c:=d9 r VU;show(((tops (b_ 1 r) r).getD j 0:Int):Rat)/(((b_ 1 r:Nat):Int):Rat)=_;unfold tops;rw[au,au,aq];by_cases h:j<r.length
 .rw[aj h];show((r[j].num*((b_ 1 r/r[j].den:Nat):Int):Int):Rat)/_=r[j];obtain⟨k,a⟩:=(jN r (n:=1)).2 r[j] (aU h);have hd:=r[j].den_pos;rw[show b_ 1 r/r[j].den=k by rw[a];exact Nat.mul_div_cancel_left _ hd];have b:k≠0:=λz=>by rw[z]at a;lia
  rw[<- UQ,a,Ts,Rat.divInt_mul_right wp];exact rd _
 .rw[aM (Nat.not_lt.mp h)];show((0:Int):Rat)/_=0
  grind
structure Sys(I:wv)(N:Nat):Prop where
 wid:∀r∈I,r.length=I.length+1
 few:I.length<=100
 lev:∀r∈I,Big N (kI r)
 num:∀r∈I,∀c∈r,Bd c.num
 one:1<=N
 mb:(2*I.length*N)^I.length<=NN
 nn:N<=NN
 inj:∀x:Nat->Rat,(∀j,I.length<=j->x j=0)->(∀r∈I,sg (λj=>r.getD j 0*x j) (I.length+1)=0)->∀j,j<I.length->x j=0
def Us(h:i<I.length):ac (I.map kI) i=kI I[i]:=by
 have:=Bm (u:=I.map kI) (i:=i) (by rwa[ak]);rw[aq,aj h]at this;injection this with this;exact this.symm
def Sys.b0(h:Sys I N):B0 (I.map kI) (I.length+1) N:=⟨λi a=>by
 rw[ak]at a;rw[Us a];exact⟨h.lev _ (aU a),by rw[TN];exact h.wid _ (aU a)⟩,h.one,by rw[ak];exact h.mb,h.nn⟩
def Rws.mk'{u:xl}(c:∀i,i<u.length->Big NN (ac u i)/\(ac u i).1.length=O)(f:u.length<=100)(d:O<=1000):Rws u O:=by
 have:∀r∈u,Big NN r/\r.1.length=O:=λr a=>by
  obtain⟨i,b,g⟩:=List.getElem_of_mem a;have e:=Bm b;rw[aj b,g]at e;injection e with e;rw[e];exact c i b
 exact⟨λr a=>(this r a).1,λr a=>(this r a).2,f,d⟩
def Sys.rws{c:Nat}{u:xl}(h:Sys I N)(g:Gs (I.map kI) (I.length+1) N c u):Rws u (I.length+1):=by
 have l:=g.len;have few:=h.few;rw[ak]at l;refine Rws.mk' (λi a=>?_) (aL (WG l) few) wp;have b:i<(I.map kI).length:=by rw[g.len]at a;exact a
 exact⟨g.big h.b0 b,(g.row i b).2.1⟩
def SE(a:i<I.length)(x:Nat->Rat):sg (λj=>vr (ac (I.map kI) i) j*x j) n=sg (λj=>I[i].getD j 0*x j) n:=bZ λj _=>by rw[Us a,Ms]
def Sys.inj'(h:Sys I N):∀x:Nat->Rat,(∀j,(I.map kI).length<=j->x j=0)->(∀i,i<(I.map kI).length->sg (λj=>vr (ac (I.map kI) i) j*x j) (I.length+1)=0)->∀j,j<(I.map kI).length->x j=0:=by
 rw[ak];intro x d c;refine h.inj x d λr b=>?_;obtain⟨i,a,rfl⟩:=List.getElem_of_mem b;rw[<- SE a];exact c i a
def Ob(m:Nat)(y:Nat->Rat):xj:=(range m).map λi=>.lst ((range (m+1)).map λj=>aa (if j<m then if i=j then 1 else 0 else y i))
def Ps{u:xl}(h:Sys I N)(g:Gs (I.map kI) (I.length+1) N I.length u):(u.map λr=>T.lst ((range (I.length+1)).map λk=>aa (vr r k)))=Ob I.length λi=>vr (ac u i) I.length:=by
 have l:=g.len;rw[ak]at l;unfold Ob;refine TK (by rw[ak,ak,WH,l]) λi a d=>?_;rw[ak]at a;rw[UR,UR,Q2];have e:=Bm a;rw[aj a]at e;injection e with e;rw[e]
 congr 1
 refine Tk λj b=>?_;have b:=List.mem_range.mp b;by_cases c:j<I.length
 .rw[ZY c,g.unit i j (by rw[ak];exact aR a (WG l)) c]
 .rw[ZZ c,show j=I.length by lia]
def PY{u:xl}(g:Gs (I.map kI) (I.length+1) N I.length u):∀r∈I,sg (λj=>r.getD j 0*vr (ac u j) I.length) I.length=r.getD I.length 0:=λr a=>by
 obtain⟨i,b,rfl⟩:=List.getElem_of_mem a;have l:(I.map kI).length=I.length:=ak _;have:=Gs.answer (E:=I.map kI) (N:=N) (u:=u) (by rwa[l]) (i:=i) (by rwa[l]);rw[l,Us b,Ms]at this;rw[<- this];exact bZ λj _=>by rw[Ms]
def MN:ST:=λa R=>∃(I:wv)(N:Nat),a=[.lst (I.map Ky),.int I.length]/\Sys I N/\∀(b:xj)(y:Nat->Rat),(∀r∈I,sg (λj=>r.getD j 0*y j) I.length=r.getD I.length 0)->(∀i,i<I.length->FnB ((2*I.length*N)^I.length) (y i))->R (.fz (.tup [.lst b,.lst (Ob I.length y)]))
def Yc(F:Fun K vQ vQ BK f G)(T:Txt K mg D)(gH:ag P w K mg base 2 pW oN uW)(Q:ag P w K mg base 1 pq lV CT)(O:dL P w K mg base 6 qL n6 (eg K GX))(S:dL P w K mg base 6 mH jd (eg K xU))(V:ag P w K mg base 3 mq iZ xT):bW P w K mg base ab 7 f G sY (am K MN):=by
 refine F.okT Lf (λj _=>bF (P8 (bG BK) Hl Hl ["row"] (cI wn) (d_ (i:=0)) cC (bI gH (bx wn bC)) (mC (i:=2) Lf.nd rfl (Or.inl rfl)))
  (bF (lA 3 (eF bC))
  (bF (bO 4 bA)
  (bF (eV (fM T.gF (bx we bC)) (cB (n:=99) 5)
  (bF (bO 6 (Nf 2 (bI Q (bx wa (bx wE (bx (qv 5) bC))))))
  (bH (cG (cj Ry (qv 6) iD)
  (bF (M6 2 3 O j.md (by rfl) (bx wE (bx (qv 6) (bx (qv 5) bC))))
  (bF (M6 2 3 S j.md (by rfl) (bx wE (bx (qv 5) bC)))
  (bH (P7 4 NG bA))))
  bQ))))
  (bH (Tc 3 (Tc 2 (bN (dh (bx wP (bx (bI V (bx wa bC)) bC))))))))))) ?_
 rintro _ R ⟨I,N,rfl,h,W⟩;have lm:(I.map Ky).length=I.length:=ak _;have ll:(I.map kI).length=I.length:=ak _;have A:=h.few;have B:=h.b0;have e0:(I.map λr=>b' (kI r))=(I.map kI).map b':=by rw[WJ];rfl
 refine⟨by rw[lm];exact aL A wf,comp_map Ky (λr=>b' (kI r)) I (λr j N' M hN=>⟨r,rfl,by rw[h.wid r j];lia,h.num r j,da (aL (h.lev r j).bot h.nn),hN⟩) ?_⟩;rw[e0];refine⟨⟨by lia,by lia⟩,Aw (λc o=>∃u e x y,o=[.fz (.lst (I.map Ky)),.fz (.int I.length),.l1 (u.map b'),.l1 e,.fz (.int (c:Nat)),x,y]/\Gs (I.map kI) (I.length+1) N c u/\e.length<=102*c) ⟨_,[],_,_,rfl,B.zero,aG _⟩ ?_ ?_⟩
 .rintro c _ k ⟨u,e,x,y,rfl,g,U⟩;have k:c<I.length:=by lia
  have J:c<(I.map kI).length:=by lia
  have l:=g.len;have p:=h.rws g;have big:(20000:Nat)<sizeLine:=by decide
  refine⟨u,_,c,c,rfl,p,by lia,by exact WS _ k,λq H v E=>⟨trivial,u,e,_,c,q,c,rfl,rfl,p,by exact Y3 H v,v,by exact WS _ k,E,by lia,λd t l2 e2 s2=>?_⟩,λz=>(g.found J (WS _ k) h.inj' λi a b=>z i a wp).elim⟩;obtain⟨Z,Y,X⟩:=g.next B J (WS _ k) H (aR v (WG l)) E (rs2:=d) λi m=>e2 i wp;exact⟨d,t,_,c,c,rfl,rfl,Rws.mk' (λi m=>Z i wp) wp wp,by lia,by exact WS _ k,by lia,λi m=>Y i wp,λC s l3 e3 s3=>⟨C,s,.fz (.int c),.fz (.int q),rfl,X C wp λi m=>e3 i wp,by lia⟩⟩
 .rintro _ ⟨u,e,x,y,rfl,g,U⟩;have g:Gs (I.map kI) (I.length+1) N I.length u:=g;have p:=h.rws g;have l:=g.len;refine⟨u,_,rfl,p,?_⟩;have:=W e _ (PY g) λi m=>by
   have L:i<(I.map kI).length:=by lia
   have b:=g.bigM B L;rw[ll]at b;exact FnB.vr b (by rw[(g.row i L).2.1];exact X2 _)
  rw[<- Ps h g]at this;exact this
open Rw (vr jA ju pQ ba iT iK uy oA Big rP lN pA mG pJ gJ sg iu gq bZ iU jt)
def Iz:ST:=λa q=>∃(I:wv)(n:Nat),a=[.lst (I.map Ky)]/\(∀r∈I,r.length=n)/\(I=[]->n=0)/\q (.fz (.int n))
def VH(F:Fun K tO tO Dl f G)(T:Txt K mg D):bW P w K mg base ab 1 f G pN (am K Iz):=by
 refine F.okT U8 (λb _=>bF (cG (cj (yA b.units) (bY eG T.gk VY (bx wn bC)) bA)
  (bH (bN bA))
  bQ)
  (bH (bN (bY eG T.gk VY (bx (bJ wn bA) bC))))) ?_
 rintro _ R ⟨I,n,rfl,h,a,q⟩
 match I,h,a with
 |[],h,a=>rw[a rfl]at q;exact q
 |r::I,h,a =>
  have e:(r.map aa).length=n:=by rw[ak];exact h r (aO ..)
  rw[<- e]at q;exact⟨_,rfl,q⟩
theorem Ve(i:Nat):∀m,(range m).filter (λj=>decide (j=i))=if i<m then[i]else[]
 |0=>by rw[ZZ (WU _)];rfl
 |m+1=>by
  rw[range_succ,List.filter_append,Ve i m];by_cases e:m=i
  .subst e;rw[ZZ (Wp _),ZY (X2 _)];simp
  .rw[List.filter_cons_of_neg (by simpa using e)];by_cases c:i<m
   .rw[ZY c,ZY (WS _ c)];rfl
   .rw[ZZ c,ZZ wp];rfl
def Af:ST:=λb q=>∃(I:wv)(a:xz),b=[.lst (I.map Ky),.lst (a.map aa)]/\I.length<=100/\(∀r∈I,r.length<=100)/\q (.l1 ((zipWith (λr c=>r++[c]) I a).map Ky))
def Nb(F:Fun K oh oh pI f G)(T:Txt K mg D):bW P w K mg base ab 1 f G jD (am K Af):=by
 refine F.okT Nh (λ_ _=>bH (bN (c7 (bG pI) um um ["row","right"] (Ah T.I9 (bx wn (bx we bC))) (fK (n:=2) (bT (d_ (i:=0)) (bT (d_ (i:=1)) dN))) cC (bL dg wn (eF (bx we bC)))))) ?_;rintro _ R ⟨I,d,rfl,j,h,q⟩;have k:(I.zip d).length<=I.length:=by rw[VZ];exact min_le_left ..
 refine⟨by unfold xX;rw[ak,VZ,ak,ak];exact aL (aL (min_le_left ..) j) wf,?_⟩;rw[zip_map];refine comp_map (λp=>.tup [Ky p.1,aa p.2]) (λp=>Ky (p.1++[p.2])) (I.zip d) (λp e N M g=>⟨rfl,?a,?b⟩) ?c
 case a =>
  have:=h _ (VX e).1;show(p.1.map aa).length+1<=sizeLine;rw[ak];exact aL (show _<=101 by exact succ_le_succ this) wf
 case b =>
  show N (.lst (p.1.map aa++[aa p.2]));rw[show(p.1.map aa++[aa p.2])=(p.1++[p.2]).map aa by rw[bf];rfl];exact g
 case c =>
  rw[map_zipWith]at q;rw[List.zip,map_zipWith];exact q
def Gv:ST:=λa q=>∃(m:Nat)(y:Nat->Rat),a=[.lst (Ob m y),.int m]/\m<=100/\q (.l1 ((range m).map λi:Nat=>.int i))
def Ro(F:Fun K qX qX tV f G)(T:Txt K mg D):bW P w K mg base ab 1 f G n8 (am K Gv):=by
 refine F.okT GP (λg _=>bF (lA 2 (eF bC))
  (bF (eV (cI wn) (cB (n:=99) 3)
  (bF (qK (bG tV) Bb Bb ["column"] (fM T.gF (bx we bC)) (d_ (i:=0)) (Z0 (cj (qG g.units) (bJ wE wn) (lG T.iY T.gC))) wn (mC (i:=4) GP.nd rfl (Or.inl rfl)))
  (bH (cG (cj I_ (bY eG T.gk VY (bx wE bC)) bA)
  (bH (uG 2 (bJ wE bA)))
  bQ))))
  (bH (mJ 2)))) ?_
 rintro _ R ⟨m,y,rfl,h,q⟩;have sz:(1000:Nat)<=sizeLine:=by decide
 refine gK _ (range m) (λb o=>∃x z,o=[.fz (.lst (Ob m y)),.fz (.int m),.l1 (b.map λi:Nat=>.int i),x,z]) ⟨_,_,rfl⟩ ?_ ?_
 .rintro b i s _ e ⟨x,z,rfl⟩;have l:i<m:=List.mem_range.mp (e ▸ by simp);have r:b.length<m:=by have:=ZH List.length e;rw[WH,aA,length_cons]at this;lia
  refine⟨⟨by lia,by lia⟩,by rw[rng,ak,WH];exact aL (show _<=1000 by lia) sz,tU (λk:Nat=>.int (0+k)) (λj=>decide (j=i)) (λj=>.int (0+(j:Nat))) (range m) (λj a N M d p=>?_) ?_⟩
  .have a:=List.mem_range.mp a;show hName 0 (L2.T.int (0+((j:Nat):Int))) _ _;rw[show(0:Int)+((j:Nat):Int)=((j:Nat):Int)by lia]at d ⊢;refine⟨_,jw (Up (WS _ a)),?_⟩;by_cases c:j=i
   .refine fh ?_ (d (Zs c));show xr true (_&&_)=true;rw[ZY a,ZY c.symm]
    rfl
   .refine dz ?_ (p (Zp c));show xr true (_&&_)=false;rw[ZY a,ZZ (Ne.symm c)]
    rfl
  .rw[Ve,ZY l];refine⟨_,rfl,by rw[ak];lia,.fz (.lst ((range (m+1)).map λj=>aa (if j<m then if i=j then 1 else 0 else y i))),.fz (.lst [.int (0+(i:Nat))]),?_⟩;rw[bf];show[_,_,OT.l1 (b.map _++[L2.T.int (0+(i:Nat))]),_,OT.fz (.lst [L2.T.int (0+(i:Nat))])]=[_,_,OT.l1 (b.map _++[L2.T.int (i:Nat)]),_,_];rw[show(0:Int)+((i:Nat):Int)=((i:Nat):Int)by exact Int.zero_add _]
 .rintro _ ⟨x,z,rfl⟩;exact q
def KR:ST:=λa q=>∃(m:Nat)(y:Nat->Rat),a=[.lst (Ob m y),.lst ((range m).map λi:Nat=>.int i),.int m]/\m<=100/\q (.fz .non)
def Xb(F:Fun K wN wN G_ f G)(T:Txt K mg D):bW P w K mg base ab 1 f G rR (am K KR):=by
 refine F.okT X_ (λa _=>bF (eV (Bg T.gF (bx (bY eG T.gk VY (bx we bC)) (bx (bY eG T.gk VY (bx wn bC)) bC))) (cB (n:=99) 3)
  (bH (cG (cj (qG a.units) (bJ (bJ wn wP) wa) (lG T.iY T.gC))
  (bH (bN wP))
  bQ)))
  (bH (bN iD))) ?_
 rintro _ R ⟨m,y,rfl,h,q⟩;have c:((range m).map λi:Nat=>L2.T.int i).length=m:=by rw[ak,WH]
 have b:(Ob m y).length=m:=by unfold Ob;rw[ak,WH]
 refine⟨⟨by lia,by lia,by lia,by lia⟩,Fp (λ_ _=>True) _ 0 trivial (λi t o e z=>?_) λo _=>q⟩;have:=(EH e).1;lia
def Eu:ST:=λa q=>∃(m:Nat)(y:Nat->Rat),a=[.lst (Ob m y),.lst ((range m).map λi:Nat=>.int i),.int m]/\m<=100/\q (.l1 ((range m).map λi=>aa (y i)))
def Sg(F:Fun K qN qN zF f G)(T:Txt K mg D):bW P w K mg base ab 1 f G nF (am K Eu):=by
 refine F.okT Sq (λ_ _=>bF (lA 3 (bL cQ (eF (bx (lG T.iY T.gC) bC)) wa))
  (bF (eV (Ep T.pO (bx we bC)) (fK (n:=2) (bT (cB (n:=99) 4) (bT (cB (n:=99) 5) dN)))
  (bH (Hr 3 (bJ (bJ wn wE) wa) (qv 5))))
  (bH (mJ 3)))) ?_
 rintro _ R ⟨m,y,rfl,h,q⟩;refine⟨⟨by lia,by lia,by show 1*_<=_;exact aL (show _<=100 by lia) wf⟩,λz a=>?_⟩;have a:z=(range m).map λi=>if i<0 then aa (y i)else aa 0:=by
  rw[a,List.flatten_replicate_singleton];refine TK (by rw[aN,ak,WH];rfl) λn l j=>?_;rw[List.getElem_replicate,UR,ZZ (WU _)]
  rfl
 subst a;refine Cd (λi:Nat=>.int i) (range m) (λk o=>∃x z,o=[.fz (.lst (Ob m y)),.fz (.lst ((range m).map λi:Nat=>.int i)),.fz (.int m),.l1 ((range m).map λi=>if i<k then aa (y i)else aa 0),x,z]) ⟨_,_,rfl⟩ ?_ ?_
 .rintro k i _ e ⟨x,z,rfl⟩;have b:k<m:=by have:=(ao.mp e).1;rwa[WH]at this
  rw[Up b]at e;cases e;refine⟨rfl,_,jw (Up b),_,jw (Up (X2 m)),k,Dr (by rwa[ak,WH]),.fz (.int k),.fz (.int k),?_⟩;have:((range m).map λi=>if i<k then aa (y i)else aa 0).set k (aa (if m<m then if k=m then 1 else 0 else y k))=(range m).map λi=>if i<k+1 then aa (y i)else aa 0:=by
   rw[ZZ (Wp _)];refine TK (by rw[VT,ak,ak]) λn l j=>?_;rw[getElem_set,UR,UR,Q2];by_cases c:k=n
   .rw[ZY c,ZY wp,c]
   .rw[ZZ c];by_cases d:n<k
    .rw[ZY d,ZY (WS _ d)]
    .rw[ZZ d,ZZ wp]
  rw[<- this]
  rfl
 .rintro _ ⟨x,z,rfl⟩;have:((range m).map λi=>if i<(range m).length then aa (y i)else aa 0)=(range m).map λi=>aa (y i):=Tk λi g=>by rw[WH,ZY (List.mem_range.mp g)]
  rw[<- this]at q;exact q
open Rw (vr jA ju pQ ba iT iK uy oA Big rP lN pA mG pJ gJ sg iu gq bZ iU jt)
abbrev Fx(I:wv)(ay:xz):wv:=zipWith (λr c=>r++[c]) I ay
def yw:ST:=λb R=>∃(I:wv)(a:xz)(N:Nat),b=[.lst (I.map Ky),.lst (a.map aa)]/\a.length=I.length/\(∀r∈I,r.length=I.length)/\Sys (Fx I a) N/\∀y:Nat->Rat,(∀r∈Fx I a,sg (λj=>r.getD j 0*y j) I.length=r.getD I.length 0)->(∀i,i<I.length->FnB ((2*I.length*N)^I.length) (y i))->R (.l1 ((range I.length).map λi=>aa (y i)))
def Mf(F:Fun K nW nW ux f G)(T:Txt K mg D)(s:ag P w K mg base 1 tO pN Iz)(l:ag P w K mg base 1 oh jD Af)(q:ag P w K mg base 7 vQ sY MN)(j:ag P w K mg base 1 qX n8 Gv)(p:ag P w K mg base 1 wN rR KR)(k:ag P w K mg base 1 qN nF Eu):bW P w K mg base ab 8 f G jz (am K yw):=by
 refine F.okT Lj (λ_ _=>bF (bO 2 (bI s (bx wn bC)))
  (bF (bO 3 (bJ (bI q (bx (bI l (bx wn (bx we bC))) (bx wa bC))) bA))
  (bF (bO 4 (bI j (bx wP (bx wa bC))))
  (bF (cG (QW.qt (g8 (cj CV (bY eG T.gk VY (bx wE bC)) wa) (eX (cj Ry (bI p (bx wP (bx wE (bx wa bC)))) iD))))
  (bH (bN iD))
  bQ)
  (bH (bN (bI k (bx wP (bx wE (bx wa bC)))))))))) ?_
 rintro _ R ⟨I,c,N,rfl,o,d,h,m⟩;have b:(Fx I c).length=I.length:=by rw[JP,o,UV]
 have a:=h.few;rw[b]at a;refine⟨I,I.length,rfl,d,λz=>by rw[z];rfl,I,c,rfl,a,λr n=>by rw[d r n];exact a,Fx I c,N,?_,h,λt y g e=>?_⟩
 .rw[b];rfl
 .rw[b]at g e ⊢;have u:((range I.length).map λi:Nat=>L2.T.int i).length=I.length:=by rw[ak,WH]
  exact⟨I.length,y,rfl,a,dz (Zp (by show ¬((((range I.length).map λi:Nat=>L2.T.int i).length:Nat):Int)<_;lia)) ⟨I.length,y,rfl,a,I.length,y,rfl,a,m y g e⟩⟩
def adT(m:Nat):wb:=(range m).map λi=>(range m).map λj=>aa (if j=i then 1 else 0)
def yZ:ST:=λa q=>∃m:Nat,a=[.int m]/\m<=100/\q (.l2 (adT m))
def Ln(F:Fun K nH nH lX f G)(T:Txt K mg D):bW P w K mg base ab 1 f G jT (am K yZ):=by
 refine F.okT Ly (λc _=>bH (bN (abN (bG lX) lR lR "row" (fM T.gF (bx wn bC)) Do cC (Zq (bG lX) ("row"::lR) ("row"::lR) ["column"] (fM T.gF (bx we bC)) (d_ (i:=0)) cC (Pb (cj (yA c.units) wn we) (lG T.Ei T.w6) (lG T.iY T.gC)))))) ?_;rintro _ R ⟨m,rfl,h,q⟩;have sz:(100:Nat)<=sizeLine:=by decide
 have b:(rng 0 m).length<=sizeLine:=by rw[rng,ak,WH];exact aL h sz
 refine⟨⟨by lia,by lia⟩,b,Vm (λi=>(range m).map λj=>aa (if j=i then 1 else 0)) m (λi g N M a=>⟨⟨by lia,by lia⟩,b,Ua (λj=>aa (if j=i then 1 else 0)) m (λj d N M a=>?_) a⟩) q⟩;by_cases e:j=i
 .rw[ZY e]at a;exact fh (Zs wp) a
 .rw[ZZ e]at a;exact dz (Zp wp) a
def dT:xC->T
 |none=>.non
 |some d=>.int d
def Px:xC->Nat->Bool
 |none,n=>decide (n=0)
 |some d,n=>decide (d<n)
structure cf(l:zD)(C:zS):Prop where
 len:C.length=l.length
 ok:∀(k:Nat)(d:xC)(ds:List bM),C[k]?=some d->l[k]?=some ds->Px d ds.length=true
def Fs:ST:=λa q=>∃(d:xC)(n:Nat),a=[dT d,.int n]/\q (.fz (.bl (Px d n)))
def S4(F:Fun K Ke Ke Xi f G)(T:Txt K mg D)(b:ag P w K mg base 1 gD fL jR):bW P w K mg base ab 2 f G En (am K Fs):=by
 refine F.okT ZI (λa _=>bF (cG (cj (yA a.units) we bA)
  (bH (bN (xH zB wn iD)))
  bQ)
  (bH (bN (Le (bI b (bx wn bC)) (K5 (V5 CN CV bA wn we)))))) ?_
 rintro _ R ⟨d,n,rfl,q⟩;by_cases e:n=0
 .subst e;cases d with
  |none=>exact q
  |some d=>exact q
 .refine dz (Zp wp) ?_;cases d with
  |none =>
   rw[show Px none n=false from Zp e]at q;exact⟨_,_,rfl,rfl,q⟩
  |some d =>
   rw[show Px (some d) n=decide ((d:Int)<(n:Int))from decide_eq_decide.mpr (by omega)]at q;exact⟨_,_,rfl,rfl,q⟩
def pG(D:a'):ST:=λa q=>∃(s:Rat)(d:Φ)(l:zD)(C:zS),a=[bu D s d l,.lst (C.map dT)]/\yc d l/\cf l C/\q (.fz (.bl true))
def Oi(F:Fun K jh jh v7 f G)(T:Txt K mg D)(p:ag P w K mg base 2 Ke En Fs)(j:OkI P w K mg base ab 1 D.Hall_size fu (am K (j4 D)))(m:OkI P w K mg base ab 3 D.Hall_offers dY (am K (rF D))):bW P w K mg base ab 4 f G gU (am K (pG D)):=by
 refine F.okT NP (λi _=>bF (cG (QW.qt (g8 (cY (cN (wL .list we T.fG T.M9 boot_list))) (eX (cj (qG i.units) (bY eG T.gk VY (bx we bC)) (vg wn T.i_ T.nu j (KS:=kO))))))
  (bH eZ)
  bQ)
  (bF (eV (Ep T.pO (bx we bC)) (fK (n:=2) (bT (cB (n:=99) 2) (bT (cB (n:=99) 3) dN)))
  (bH (cG (cY (cN (bI p (bx wP (bx (bY eG T.gk VY (bx (Bw wn T.i_ T.jB m (bx wa bC) (KS:=kO)) bC)) bC)))))
  (bH eZ)
  bQ)))
  (bH (bN mV)))) ?_
 rintro _ R ⟨s,d,l,C,rfl,h,b,q⟩;refine⟨⟨rfl,rfl⟩,_,_,_,rfl,dz ?_ ?_⟩
 .show xr true (decide ((((C.map dT).length:Nat):Int)=(d.length:Nat)))=false;rw[ak,b.len,h.len,Zs rfl]
  rfl
 .refine Cd dT C (λk o=>∃x y,o=[.fz (bu D s d l),.fz (.lst (C.map dT)),x,y]) ⟨_,_,rfl⟩ ?_ ?_
  .rintro k a _ e ⟨x,y,rfl⟩;have g:k<l.length:=by rw[<- b.len];exact(ao.mp e).1
   have c:=aj g;refine⟨rfl,⟨rfl,rfl⟩,_,_,_,k,_,rfl,h,c,a,(l[k]).length,?_,?_⟩
   .show[dT a,L2.T.int ((((l[k]).map cz).length:Nat):Int)]=_;rw[ak]
   .rw[b.ok k a _ e c];exact⟨_,_,rfl⟩
  .rintro _ ⟨x,y,rfl⟩;exact q
def cb(l:zD)(C:zS):xp:=C.zipIdx.map λp=>p.1.bind λd=>(l.getD p.2 [])[d]?
def f7:xB->T
 |none=>.non
 |some o=>cz o
def xR(D:a'):ST:=λa q=>∃(s:Rat)(d:Φ)(l:zD)(C:zS),a=[bu D s d l,.lst (C.map dT)]/\yc d l/\cf l C/\q (.l1 ((cb l C).map f7))
def Jt(F:Fun K mD mD ou f G)(T:Txt K mg D)(v:OkI P w K mg base ab 3 D.Hall_offers dY (am K (rF D))):bW P w K mg base ab 4 f G jc (am K (xR D)):=by
 refine F.okT JH (λ_ _=>bH (bN (c7 (bG ou) tG tG ["room","door"] (Ep T.pO (bx we bC)) (fK (n:=2) (bT (d_ (i:=0)) (bT (d_ (i:=1)) dN))) cC (Pb (cj zB we iD) iD (bJ (Bw wa T.i_ T.jB v (bx wn bC) (KS:=kO)) we))))) ?_;rintro _ R ⟨s,d,l,C,rfl,h,j,q⟩;refine⟨by unfold Df;rw[ak,length_zipIdx,ak,j.len,h.len];exact aL h.few wf,?_⟩;rw[ac6];refine comp_map (λp=>.tup [.int (p.2:Nat),dT p.1]) (λp=>f7 (p.1.bind λc=>(l.getD p.2 [])[c]?)) C.zipIdx (λp r N M g=>⟨rfl,?a⟩) ?b
 case b =>
  unfold cb at q;rw[WJ]at q;exact q
 case a =>
  obtain⟨c,k⟩:=p;have e:=List.mem_zipIdx_iff_getElem?.mp r;have o:k<l.length:=by rw[<- j.len];exact(ao.mp e).1
  have m:=aj o;have u:l.getD k []=l[k]:=by rw[au,m];rfl
  have t:=j.ok k c _ e m;cases c with
  |none=>exact g
  |some c =>
   have ld:c<(l[k]).length:=of_decide_eq_true t;have g:N (f7 ((l.getD k [])[c]?)):=g;rw[u,aj ld]at g;exact⟨⟨rfl,rfl⟩,_,_,_,k,_,rfl,h,m,_,jw (aj ld),g⟩
open Rw (sg)
def yY(f:Nat->Nat->Rat)(m:Nat):wb:=(range m).map λi=>(range m).map λj=>aa (f i j)
def uI:zI->Nat->Rat
 |[],_=>0
 |w::j,a=>(if w.1=a then w.2 else 0)+uI j a
def kY:xB->zI
 |none=>[]
 |some o=>o.ways
structure Fu(s:Rat)(m:Nat)(j:zI):Prop where
 nd:(j.map (·.1)).Nodup
 few:j.length<=1000
 lt:∀w∈j,w.1<m
 bq:∀w∈j,Bq w.2/\Bd ((s.den:Int)*w.2.den)/\Bq (s*w.2)
def iC(s:Rat)(a:xp)(i j:Nat):Rat:=(if j=i then 1 else 0)-s*uI (kY (a.getD i none)) j
def Fy:ST:=λb q=>∃(s:Rat)(a:xp),b=[aa s,.lst (a.map f7)]/\a.length<=100/\Bq s/\(∀o∈a,Fu s a.length (kY o))/\q (.l2 (yY (iC s a) a.length))
def _u(f:Nat->Nat->Rat)(m:Nat):(yY f m).length=m:=by unfold yY;rw[ak,WH]
def Ze{f:Nat->Nat->Rat}(h:i<m):(yY f m)[i]?=some ((range m).map λj=>aa (f i j)):=by
 unfold yY;rw[aq,Up h];rfl
def vW{f g:Nat->Nat->Rat}(h:∀i j,i<m->j<m->f i j=g i j):yY f m=yY g m:=Tk λi b=>Tk λj a=>by rw[h i j (List.mem_range.mp b) (List.mem_range.mp a)]
def ab3{f g:Nat->Nat->Rat}{v:Rat}(h:∀a b,a<m->b<m->g a b=if a=i/\b=k then v else f a b):(yY f m).set i (((range m).map λj=>aa (f i j)).set k (aa v))=yY g m:=by
 unfold yY;refine TK (by rw[VT,ak,ak]) λa q o=>?_;have l:a<m:=by rw[ak,WH]at o;exact o
 rw[getElem_set];by_cases e:i=a
 .rw[ZY e,UR,Q2];refine TK (by rw[VT,ak,ak]) λb p n=>?_;have d:b<m:=by rw[ak,WH]at n;exact n
  rw[getElem_set,UR,UR,Q2,h a b l d];by_cases c:k=b
  .rw[ZY c,ZY ⟨e.symm,c.symm⟩]
  .rw[ZZ c,ZZ λz=>c z.2.symm,e]
 .rw[ZZ e,UR,UR,Q2];refine Tk λb d=>?_;rw[h a b l (List.mem_range.mp d),ZZ λz=>e z.1.symm]
def WI{f:Nat->Nat->Rat}(h:i<m):ca (yY f m) ((i:Nat):Int)=some ((range m).map λj=>aa (f i j)):=by
 show dq (yY f m) i=_;rw[qm,Ze h]
def _p(b:zI)(w:Nat×Rat)(j:Nat):uI (b++[w]) j=uI b j+if w.1=j then w.2 else 0:=by
 induction b with
 |nil=>show(_+(0:Rat))=0+_;grind
 |cons a b c=>show _+uI (b++[w]) j=(_+uI b j)+_;rw[c];grind
def aaB{b:Nat}(h:b∉j.map (·.1)):uI j b=0:=by
 induction j with
 |nil=>rfl
 |cons a d c =>
  show(if a.1=b then a.2 else 0)+uI d b=0;rw[c λz=>h (aJ _ z),ZZ λz=>h (by rw[<- z];exact aO ..)]
  grind
def vN(s:Rat)(a:xp)(n:Nat)(b:zI)(i j:Nat):Rat:=if i<n then iC s a i j else if i=n then(if j=i then 1 else 0)-s*uI b j else if j=i then 1 else 0
def _D(s:Rat)(a:xp)(n i j:Nat):vN s a n [] i j=if i<n then iC s a i j else if j=i then 1 else 0:=by
 unfold vN;split
 .rfl
 .split
  .show _-s*0=_;grind
  .rfl
def UE{c:xp}(i j:Nat):vN s c n (kY (c.getD n none)) i j=if i<n+1 then iC s c i j else if j=i then 1 else 0:=by
 unfold vN;by_cases a:i<n
 .rw[ZY a,ZY (show i<n+1 by exact WS _ a)]
 .by_cases b:i=n
  .subst b;rw[ZZ a,ZY rfl,ZY (show i<i+1 by exact X2 _)]
   rfl
  .rw[ZZ a,ZZ b,ZZ (show ¬i<n+1 by lia)]
def Xj(s:Rat)(b:xp)(n:Nat)(a:zI)(j:Nat):vN s b n a n j=(if j=n then 1 else 0)-s*uI a j:=by unfold vN;rw[ZZ (Wp _),ZY rfl]
def ON{a:xp}(c b:zI)(j:Nat)(h:i≠n):vN s a n c i j=vN s a n b i j:=by unfold vN;rw[ZZ h,ZZ h]
def R5(F:Fun K qP qP yu f G)(T:Txt K mg D)(J:ag P w K mg base 1 nH jT yZ)(O:ag P w K mg base 3 pL nG u9)(N:ag P w K mg base 3 vq tH Ef):bW P w K mg base ab 4 f G ni (am K Fy):=by
 refine F.okT R0 (λ_ _=>bF (lA 2 (bI J (bx (bY eG T.gk VY (bx we bC)) bC)))
  (bF (eV (Ep T.pO (bx we bC)) (fK (n:=2) (bT (cB (n:=99) 3) (bT (cB (n:=99) 4) dN)))
  (bH (cG (cj Ry wE iD)
  (bH (eV (cI (bJ wE bA)) (fK (n:=2) (bT (cB (n:=99) 5) (bT (cB (n:=99) 6) dN)))
  (bH (Z' 2 (bI O (bx (_M 2 wP (qv 5)) (bx (bI N (bx wn (bx (qv 6) bC))) bC))) wP (qv 5)))))
  bQ)))
  (bH (mJ 2)))) ?_
 rintro _ R ⟨s,d,rfl,U,S,Q,q⟩;refine⟨d.length,?_,U,?_⟩
 .show[L2.T.int (((d.map f7).length:Nat):Int)]=_;rw[ak]
 .have lc:∀x:Nat,((d.map f7).length:Nat)=d.length:=λ_=>ak _;refine Cd f7 d (λn o=>∃x y z u,o=[.fz (aa s),.fz (.lst (d.map f7)),.l2 (yY (λi j=>if i<n then iC s d i j else if j=i then 1 else 0) d.length),x,y,z,u]) ⟨.und,.und,.und,.und,?_⟩ ?_ ?_
  .show[_,_,OT.l2 (yY (λi j=>if j=i then 1 else 0) d.length),_,_,_,_]=_;rw[vW (f:=λi j=>if j=i then 1 else 0) (g:=λi j=>if i<0 then iC s d i j else if j=i then 1 else 0) λi j _ _=>by rw[ZZ (WU _)]]
  .rintro n p _ e ⟨x,y,z,u,rfl⟩;have H:n<d.length:=(ao.mp e).1;have X:d.getD n none=p:=by rw[au,e];rfl
   have l:=Q p (aC e);rw[show yY (λi j=>if i<n then iC s d i j else if j=i then 1 else 0) d.length=yY (vN s d n []) d.length from vW λi j _ _=>(_D s d n i j).symm];rw[show yY (λi j=>if i<n+1 then iC s d i j else if j=i then 1 else 0) d.length=yY (vN s d n (kY p)) d.length from vW λi j _ _=>by rw[<- X];exact(UE i j).symm];refine⟨rfl,?_⟩
   match p,l with
   |none,l=>exact⟨_,_,_,_,rfl⟩
   |some o,l =>
    refine gK dB o.ways (λh L=>∃z u,L=[.fz (aa s),.fz (.lst (d.map f7)),.l2 (yY (vN s d n h) d.length),.fz (.int n),.fz (cz o),z,u]) ⟨_,_,rfl⟩ ?_ ?_
    .rintro h ⟨k,c⟩ bs _ I ⟨z,u,rfl⟩;have E:(k,c)∈o.ways:=I ▸ by simp
     have V:=l.lt _ E;obtain⟨Z,Y,r⟩:=l.bq _ E;have M:k∉h.map (·.1):=λz=>by
      have C:=l.nd;rw[show kY (some o)=o.ways from rfl,I,bf]at C;exact(List.nodup_append.mp C).2.2 k z k wr rfl
     have m:vN s d n h n k=if k=n then 1 else 0:=by
      unfold vN;rw[ZZ (Wp _),ZY rfl,aaB M]
      grind
     have B:Bq (vN s d n h n k)/\Bd (((vN s d n h n k).den:Int)*(s*c).den):=by
      rw[m];split
      .exact⟨hh,by show Bd (1*_);rw[JJ];exact r.2⟩
      .exact⟨k8,by show Bd (1*_);rw[JJ];exact r.2⟩
     refine⟨rfl,_,(WI H),_,jw (Up V),s,c,rfl,S,Z,Y,_,_,rfl,B.1,r,B.2,n,_,Dr (by rwa[_u]),Ze H,k,Dr (by rwa[ak,WH]),.fz (.int k),.fz (aa c),?_⟩;rw[<- ab3 (f:=vN s d n h) (g:=vN s d n (h++[(k,c)])) (i:=n) (k:=k) (v:=vN s d n h n k-s*c) λa b _ _=>?_]
     .rfl
     .by_cases A:a=n
      .subst A;rw[Xj,_p];by_cases t:b=k
       .subst t;rw[ZY (show a=a/\b=b from⟨rfl,rfl⟩),Xj,ZY (show(b,c).1=b from rfl)]
        grind
       .rw[ZZ (show ¬(a=a/\b=k)from λz=>t z.2),Xj,ZZ (show ¬(k,c).1=b from λz=>t z.symm)]
        grind
      .rw[ZZ (show ¬(a=n/\b=k)from λz=>A z.1)];exact ON _ _ _ A
    .rintro _ ⟨z,u,rfl⟩;exact⟨_,_,_,_,rfl⟩
  .rintro _ ⟨x,y,z,u,rfl⟩;rw[show yY (iC s d) d.length=yY (λi j=>if i<d.length then iC s d i j else if j=i then 1 else 0) d.length from vW λi j W _=>by rw[ZY W]]at q;exact q
open Rw (sg)
def pU:xB->Rat
 |none=>0
 |some o=>o.pay
def Dj(s:Rat)(a:xp):wv:=(range a.length).map λi=>(range a.length).map λj=>iC s a i j
def IP(s:Rat)(a:xp):(yY (iC s a) a.length).map T.lst=(Dj s a).map Ky:=by
 unfold yY Dj;rw[WJ,WJ];refine Tk λi _=>?_;show T.lst _=T.lst (List.map aa _);rw[WJ]
 rfl
def SX(s:Rat)(a:xp):(Dj s a).length=a.length:=by unfold Dj;rw[ak,WH]
def OV{a:xp} : ∀r∈Dj s a,r.length=a.length:=λr b=>by
 obtain⟨i,_,rfl⟩:=YV.mp b;rw[ak,WH]
def Bl(s:Rat)(a:xp)(y:Nat->Rat):Prop:=∀i,i<a.length->sg (λj=>iC s a i j*y j) a.length=pU (a.getD i none)
structure p_(s:Rat)(cs:xp)(N:Nat):Prop where
 bs:Bq s
 ways:∀o∈cs,Fu s cs.length (kY o)
 sys:Sys (Fx (Dj s cs) (cs.map pU)) N
def YZ{a:xp}(h:i<a.length):(Fx (Dj s a) (a.map pU))[i]?=some (((range a.length).map λj=>iC s a i j)++[pU (a.getD i none)]):=by
 unfold Fx Dj;rw[List.getElem?_zipWith,aq,Up h,aq,au,aj h]
 rfl
def eh(f:Nat->Rat)(x:Rat):(((range n).map f)++[x]).getD n 0=x:=by
 rw[au,aD (by rw[ak,WH];exact aG _),ak,WH,Nat.sub_self];rfl
def XJ{j:Nat}(f:Nat->Rat)(x:Rat)(a:j<n):(((range n).map f)++[x]).getD j 0=f j:=by
 rw[au,aF (by rwa[ak,WH]),aq,Up a];rfl
def acQ{a:xp}(h:∀r∈Fx (Dj s a) (a.map pU),sg (λj=>r.getD j 0*y j) a.length=r.getD a.length 0):Bl s a y:=λi c=>by
 have:=h _ (aC (YZ c));rw[eh]at this;rw[<- this];exact Rw.bZ λj b=>ZH (· * y j) (XJ _ _ b).symm
def vP(D:a'):ST:=λa R=>∃(s:Rat)(d:Φ)(l:zD)(C:zS)(N:Nat),a=[bu D s d l,.lst (C.map dT)]/\yc d l/\cf l C/\l.length<=100/\p_ s (cb l C) N/\∀y:Nat->Rat,Bl s (cb l C) y->(∀i,i<l.length->FnB ((2*l.length*N)^l.length) (y i))->R (.l1 ((range l.length).map λi=>aa (y i)))
def Hv{l:zD}(h:cf l C):(cb l C).length=l.length:=by unfold cb;rw[ak,length_zipIdx,h.len]
def Q0(F:Fun K n_ n_ uc f G)(T:Txt K mg D)(p:ag P w K mg base 4 jh gU (pG D))(j:ag P w K mg base 4 mD jc (xR D))(q:ag P w K mg base 4 qP ni Fy)(g:ag P w K mg base 8 nW jz yw):bW P w K mg base ab 9 f G jW (am K (vP D)):=by
 refine F.okT Fz (λ_ _=>bF (jx (bI p (bx wn (bx we bC))))
  (bF (bO 2 (bI j (bx wn (bx we bC))))
  (bF (qK (bG uc) Ax Ax ["offer"] (cI wa) (d_ (i:=0)) cC (Pb (cj zB wn iD) (lG T.iY T.gC) (bJ wn bA)) (mC (i:=3) Fz.nd rfl (Or.inl rfl)))
  (bH (bN (bI g (bx (bI q (bx (tD (Fm:=bb D) (λa h=>⟨T.cl a h,T.Av a h⟩) wn) (bx wa bC))) (bx wP bC)))))))) ?_
 rintro _ R ⟨s,d,l,C,N,rfl,h,e,b,hw,k⟩;have c:=Hv e;refine⟨_,_,_,_,rfl,h,e,_,_,_,_,rfl,h,e,?_⟩;refine⟨by rw[ak,c];exact aL b wf,comp_map f7 (λo=>aa (pU o)) (cb l C) (λo r N M m=>by cases o<;>exact m) ?_⟩;refine⟨rJ D,_,rfl,s,cb l C,rfl,by exact aL (WG c) b,hw.bs,hw.ways,Dj s (cb l C),(cb l C).map pU,N,?_,by rw[ak,SX],by rw[SX];exact OV,hw.sys,?_⟩
 .show[L2.T.lst ((yY (iC s (cb l C)) (cb l C).length).map L2.T.lst),L2.T.lst ((cb l C).map λo=>aa (pU o))]=_;rw[IP,WJ]
  rfl
 .rw[SX,c];exact λy t n=>k y (acQ (by rwa[c])) n
def JF(j:zI)(a:xm):Rat:=(j.map λw=>w.2*((a.getD w.1 0:Int):Rat)).sum
structure FK(j:zI)(tp:xm):Prop where
 few:j.length<=1000
 lt:∀w∈j,w.1<tp.length
 num:∀w∈j,Bd w.2.num
 lcm:Bd (b_ 1 (j.map (·.2)):Nat)
 part:∀t∈tops (b_ 1 (j.map (·.2))) (j.map (·.2)),Bd t
 top:∀t∈tp,Bd t
def yM:ST:=λb q=>∃(o:bM)(a:xm),b=[cz o,.lst (a.map T.int)]/\FK o.ways a/\q (.fz (aa (JF o.ways a)))
theorem Ti{B:Nat}(f:0<B)(a:xm):∀j:zI,(∀w∈j,w.2.den ∣ B)->divInt ((j.map λw=>w.2.num*((B/w.2.den:Nat):Int)*a.getD w.1 0).sum) B=JF j a
 |[],_=>by
  show divInt 0 B=0;exact QP _
 |w::j,h=>by
  have c:=Ti f a j λx d=>h x (aJ _ d);show divInt (w.2.num*((B/w.2.den:Nat):Int)*a.getD w.1 0+(j.map λw=>w.2.num*((B/w.2.den:Nat):Int)*a.getD w.1 0).sum) B=w.2*((a.getD w.1 0:Int):Rat)+JF j a;rw[<- c,UQ,UQ,Rat.intCast_add,XU];have e:((w.2.num*((B/w.2.den:Nat):Int):Int):Rat)/((B:Int):Rat)=w.2:=by
   obtain⟨k,b⟩:=h w (aO ..);have hd:=w.2.den_pos;rw[show B/w.2.den=k by rw[b];exact Nat.mul_div_cancel_left _ hd];have g:k≠0:=λz=>by rw[z]at b;lia
   rw[<- UQ,b,Ts,Rat.divInt_mul_right wp];exact rd _
  have i:((B:Int):Rat)≠0:=λz=>by have:=Rat.intCast_eq_zero_iff.mp z;lia
  grind
def _r(j:List Q)(g h:Q->Int):((j.map g).zip j).map (λp=>p.1*h p.2)=j.map λw=>g w*h w:=by
 induction j with
 |nil=>rfl
 |cons w j a=>exact ZH (List.cons _) a
def zu(F:Fun K oF oF lW f G)(T:Txt K mg D)(m:ag P w K mg base 2 pW oN uW)(Z:ag P w K mg base 2 pZ mZ vm):bW P w K mg base ab 3 f G jV (am K yM):=by
 refine F.okT Li (λ_ _=>bF (bO 2 (bI m (bx (c7 (bG lW) lE lE ["room","chance"] (cI (bJ wn bA)) (fK (n:=2) (bT (d_ (i:=0)) (bT (d_ (i:=1)) dN))) cC we) bC)))
  (bH (bN (bI Z (bx (bY (YW rfl) T.ad1 boot_sum (bx (c7 (bG lW) lE lE ["part","way"] (Ah T.I9 (bx (bJ wa bA) (bx (bJ wn bA) bC))) (fK (n:=2) (bT (d_ (i:=0)) (bT (d_ (i:=1)) dN))) cC (bL cQ wn (bJ wP (bJ we bA)))) bC)) (bx (bJ wa bA) bC)))))) ?_
 rintro _ R ⟨o,d,rfl,h,q⟩;refine⟨by rw[ak];exact aL h.few wf,comp_map dB (λw=>aa w.2) o.ways (λw hw N M c=>⟨rfl,c⟩) ?_⟩;have k:=d9 (o.ways.map (·.2)) VU;refine⟨o.ways.map (·.2),by rw[WJ];rfl,by rw[ak];exact h.few,λr j=>?_,h.lcm,?_⟩
 .obtain⟨w,hw,rfl⟩:=YV.mp j;exact h.num w hw
 .refine⟨by unfold xX;rw[ak,VZ,ak,ak];exact aL (aL (Nat.min_le_right ..) h.few) wf,?_⟩;rw[zip_map];refine comp_map (λp:Int×(Nat×Rat)=>.tup [.int p.1,dB p.2]) (λp=>.int (p.1*d.getD p.2.1 0)) _ (λp e N M c=>?a) ?b
  case a =>
   have g:=(VX e).2;have lt:=h.lt _ g;have c:N (.int (p.1*d.getD p.2.1 0)):=c;rw[au,aj lt]at c;exact⟨rfl,_,jw (aj lt),⟨h.part _ (VX e).1,h.top _ (aU lt)⟩,c⟩
  case b =>
   refine⟨((tops (b_ 1 (o.ways.map (·.2))) (o.ways.map (·.2))).zip o.ways).map λp=>p.1*d.getD p.2.1 0,by rw[WJ];rfl,_,_,rfl,by lia,h.lcm,λx y l=>?_⟩;rw[kE l wp];unfold tops;rw[WJ,_r o.ways _ λw=>d.getD w.1 0];have:=Ti k d o.ways λw hw=>(jN (o.ways.map (·.2))).2 w.2 (YV.mpr ⟨w,hw,rfl⟩);rw[<- this]at q;exact q
def Iw:ST:=λa q=>∃(r:Rat)(u:xz),a=[.lst ((r::u).map aa)]/\(∀x∈r::u,Bq x)/\∀m,m∈r::u->(∀x∈r::u,x<=m)->q (.fz (aa m))
def Vw(F:Fun K iG iG xO f G)(T:Txt K mg D)(j:ag P w K mg base 1 m9 lK rT):bW P w K mg base ab 2 f G iH (am K Iw):=by
 refine F.okT Jc (λ_ _=>bF (bO 1 iD)
  (bF (eV (cI wn) (cB (n:=99) 2)
  (bH (cG (QW.qt (g8 (cj zB we iD) (eX (cN (bI j (bx we (bx wa bC)))))))
  (bH (bO 1 wa))
  bQ)))
  (bH (bN we)))) ?_
 rintro _ R ⟨r,u,rfl,h,q⟩;refine gK aa (r::u) (λd o=>(d=[]/\∃x,o=[.fz (.lst ((r::u).map aa)),.fz .non,x])\/∃m x,o=[.fz (.lst ((r::u).map aa)),.fz (aa m),x]/\m∈d/\∀x∈d,x<=m) (.inl ⟨rfl,_,rfl⟩) ?_ ?_
 .rintro d a p _ e (⟨rfl,x,rfl⟩|⟨m,x,rfl,c,g⟩)
  .exact .inr ⟨a,_,rfl,by simp,λx b=>by rw[show x=a by simpa using b];exact VQ⟩
  .have l:Bq a:=h a (e ▸ by simp);have k:Bq m:=h m (e ▸ U2 _ c);exact⟨m,a,rfl,k,l,c4 (λlt=>.inr ⟨a,_,rfl,by simp,λx b=>(Y1.mp b).elim (λz=>Tu (g x z) (Th lt)) λz=>by rw[YR.mp z];exact VQ⟩) λi=>.inr ⟨m,_,rfl,U2 _ c,λx b=>(Y1.mp b).elim (g x) λz=>by rw[YR.mp z];exact Rat.not_lt.mp i⟩⟩
 .rintro _ (⟨z,_⟩|⟨m,x,rfl,c,b⟩)
  .cases z
  .exact q m c b
structure qk(s:Rat)(o:bM)(tp:xm)(B:Nat):Prop where
 bh:FK o.ways tp
 pay:Bq o.pay
 bs:Bq s
 b:Bd (B:Int)
 dw:Bq (JF o.ways tp)
 d1:Bd ((s.den:Int)*(JF o.ways tp).den)
 p1:Bq (o.pay*(B:Rat))
 p2:Bq (s*JF o.ways tp)
 d2:Bd (((o.pay*(B:Rat)).den:Int)*(s*JF o.ways tp).den)
def gZ(s:Rat)(a:xm)(B:Nat)(o:bM):Rat:=o.pay*(B:Rat)+s*JF o.ways a
def rK(D:a'):ST:=λb q=>∃(s:Rat)(d:Φ)(l:zD)(o:bM)(a:xm)(B:Nat),b=[bu D s d l,cz o,.tup [.lst (a.map T.int),.int (B:Nat)]]/\qk s o a B/\q (.fz (aa (gZ s a B o)))
def Ar(F:Fun K jL jL uH f G)(T:Txt K mg D)(g:ag P w K mg base 3 oF jV yM)(e:ag P w K mg base 3 BX v8 Ko)(c:ag P w K mg base 3 vq tH Ef):bW P w K mg base ab 4 f G iw (am K (rK D)):=by
 refine F.okT Kw (λ_ _=>bF (bO 3 (bI g (bx we (bx (bJ wa bA) bC))))
  (bH (bN (bI e (bx (bI c (bx (bJ we bA) (bx (dh (bx (bJ wa bA) (bx bA bC))) bC))) (bx (bI c (bx (tD (Fm:=bb D) (λC h=>⟨T.cl C h,T.Av C h⟩) wn) (bx wP bC))) bC)))))) ?_
 rintro _ R ⟨s,d,l,o,a,B,rfl,h,q⟩;refine⟨o,a,rfl,h.bh,o.pay,(B:Rat),rfl,h.pay,⟨h.b,hh.2⟩,?_,rJ D,_,rfl,s,JF o.ways a,rfl,h.bs,h.dw,h.d1,_,_,rfl,h.p1,h.p2,h.d2,q⟩;show Bd ((o.pay.den:Int)*1);rw[T1];exact h.pay.2
def ZQ(u:xz)(d b:Nat):Prop:=(∀x∈u,x<=u.getD d 0)/\b=d\/((u.getD d 0)<u.getD b 0/\b<u.length/\(∀x∈u,x<=u.getD b 0)/\∀i,i<b->u.getD i 0≠u.getD b 0)
def NL{b:Rat}(h:(a.num,((a.den:Nat):Int))=(b.num,((b.den:Nat):Int))):a=b:=by
 injection h with c d;exact Rat.ext c wp
def ac1{u:xz}{m:Rat}(h:m∈u):∃j:Nat,u[j]?=some m/\∀(i:Nat)g,i<j->u[i]?=some g->g≠m:=by
 induction u with
 |nil=>cases h
 |cons r u b =>
  by_cases e:r=m
  .exact⟨0,by rw[e];rfl,λi _ z=>absurd z (WU _)⟩
  .obtain⟨j,f,d⟩:=b ((YU.mp h).resolve_left λz=>e z.symm);refine⟨j+1,f,λi g c a=>?_⟩;cases i with
   |zero=>cases a;exact e
   |succ i=>exact d i g (Nat.lt_of_succ_lt_succ c) a
def Aa:ST:=λa q=>∃(u:xz)(d:Nat),a=[.lst (u.map aa),.int (d:Nat)]/\d<u.length/\u.length<=1000/\(∀x∈u,Bq x)/\∀b:Nat,ZQ u d b->q (.fz (.int (b:Nat)))
def Mr(F:Fun K nJ nJ uR f G)(T:Txt K mg D)(C:ag P w K mg base 2 iG iH Iw)(H:ag P w K mg base 1 m9 lK rT):bW P w K mg base ab 3 f G jJ (am K Aa):=by
 refine F.okT K9 (λB _=>bF (bO 2 (bI C (bx wn bC)))
  (bF (cG (cN (bI H (bx (bJ wn we) (bx wa bC))))
  (bH (bN (OS B.units wn (bx wa bC))))
  bQ)
  (bH (bN we)))) ?_
 rintro _ R ⟨u,d,rfl,hd,n,k,q⟩;have y:=aj hd;have v:u.getD d 0=u[d]:=by rw[au,y];rfl
 obtain⟨r,s,p⟩ : ∃r s,u=r::s:=by
  cases u with
  |nil=>exact absurd hd (WU _)
  |cons r u=>exact⟨r,u,rfl⟩
 refine⟨r,s,by rw[p];rfl,λx b=>k x (p ▸ b),λm h b=>?_⟩;rw[<- p]at h b;refine⟨_,jw y,_,m,rfl,k _ (aU hd),k m h,c4 (λlt=>?_) λA=>?_⟩
 .obtain⟨j,e,t⟩:=ac1 h;have l:u.getD j 0=m:=by rw[au,e];rfl
  refine⟨u.map λr=>(r.num,((r.den:Nat):Int)),(m.num,((m.den:Nat):Int)),j,by rw[WJ];rfl,rfl,by rw[ak];exact aL n wf,by rw[aq,e];rfl,λi g c o=>?_,q j (.inr ⟨by rw[v,l];exact lt,(ao.mp e).1,by rw[l];exact b,λi c=>?_⟩)⟩
  .rw[aq]at o;have a:i<u.length:=UU c (ao.mp e).1;rw[aj a]at o;cases o;exact λz=>t i _ c (aj a) (NL z)
  .have a:i<u.length:=UU c (ao.mp e).1;rw[l,au,aj a];exact t i _ c (aj a)
 .refine q d (.inl ⟨λx E=>?_,rfl⟩);rw[v];exact Tu (b x E) (Rat.not_lt.mp A)
structure Rn(s:Rat)(l:zD)(tp:xm)(B:Nat)(C bS:zS):Prop where
 len:bS.length=C.length
 none:∀k:Nat,C[k]?=some none->bS[k]?=some none
 some:∀(k d:Nat)(ds:List bM),C[k]?=some (some d)->l[k]?=some ds->∃b,bS[k]?=some (some b)/\ZQ (ds.map (gZ s tp B)) d b
structure kv(s:Rat)(l:zD)(A:xz):Prop where
 few:A.length<=1000
 num:∀r∈A,Bd r.num
 lcm:Bd (b_ 1 A:Nat)
 look:∀ds∈l,∀o∈ds,qk s o (tops (b_ 1 A) A) (b_ 1 A)/\Bq (gZ s (tops (b_ 1 A) A) (b_ 1 A) o)/\Bd (((gZ s (tops (b_ 1 A) A) (b_ 1 A) o).den:Int)*(b_ 1 A:Nat))
def Ie(D:a'):ST:=λb R=>∃(s:Rat)(d:Φ)(l:zD)(C:zS)(A:xz),b=[bu D s d l,.lst (C.map dT),.lst (A.map aa)]/\yc d l/\cf l C/\kv s l A/\∀a:zS,Rn s l (tops (b_ 1 A) A) (b_ 1 A) C a->R (.l1 (a.map dT))
theorem aaF(F:Fun K vA vA FN f G)(T:Txt K mg D)(fj:ag P w K mg base 4 jh gU (pG D))(gH:ag P w K mg base 2 pW oN uW)(gR:ag P w K mg base 4 jL iw (rK D))(Y:ag P w K mg base 3 nJ jJ Aa)(cJ:OkI P w K mg base ab 3 D.Hall_offers dY (am K (rF D))):bW P w K mg base ab 5 f G rD (am K (Ie D)):=by
 refine F.okT Ph (λ_ _=>bF (jx (bI fj (bx wn (bx we bC))))
  (bF (bO 3 (bI gH (bx wa bC)))
  (bF (lA 4 (eF bC))
  (bF (eV (Ep T.pO (bx we bC)) (fK (n:=2) (bT (cB (n:=99) 5) (bT (cB (n:=99) 6) dN)))
  (bF (qK (bG FN) Ml Ml ["offer"] (cI (Bw wn T.i_ T.jB cJ (bx (qv 5) bC) (KS:=kO))) (d_ (i:=0)) cC (bI gR (bx we (bx wn (bx wE bC)))) (mC (i:=7) Ph.nd rfl (Or.inl rfl)))
  (bH (uG 4 (Pb (cj zB (qv 6) iD) iD (bI Y (bx (qv 7) (bx (qv 6) bC))))))))
  (bH (mJ 4)))))) ?_
 rintro _ R ⟨s,d,l,C,A,rfl,h,O,I,Z⟩;refine⟨_,_,_,_,rfl,h,O,A,rfl,I.few,I.num,I.lcm,?_⟩;have X:=I.look;generalize b_ 1 A=B at *;generalize tops B A=q at *;refine Cd dT C (λk o=>∃g x y z,o=[.fz (bu D s d l),.fz (.lst (C.map dT)),.fz (.lst (A.map aa)),.fz (.tup [.lst (q.map L2.T.int),.int (B:Nat)]),.l1 (g.map dT),x,y,z]/\g.length=k/\(∀i:Nat,i<k->C[i]?=some none->g[i]?=some none)/\∀(i a:Nat)(p:List bM),i<k->C[i]?=some (some a)->l[i]?=some p->∃b,g[i]?=some (some b)/\ZQ (p.map (gZ s q B)) a b) ⟨[],.und,.und,.und,rfl,rfl,λi z=>absurd z (WU _),λi a p z=>absurd z (WU _)⟩ ?_ ?_
 .rintro k a _ e ⟨g,x,y,z,rfl,t,L,J⟩;have E:k<l.length:=by rw[<- O.len];exact(ao.mp e).1
  have U:=aj E;have few:=h.few;have hl:=h.len;have W:(g.map dT).length<sizeLine:=by rw[ak];exact aR (show _<1001 by lia) wf
  have r:=aU E;have G:=h.fews _ r;have H:∀{i:Nat}(v:xC),i<k->(g++[v])[i]?=g[i]?:=λv m=>aF wp;have u:∀v:xC,(g++[v])[k]?=some v:=λv=>by rw[aD (WG t),t,Nat.sub_self];rfl
  have V:∀v:xC,g.map dT++[dT v]=(g++[v]).map dT:=λv=>by rw[bf];rfl
  refine⟨rfl,⟨rfl,rfl⟩,_,_,_,k,_,rfl,h,U,by rw[ak];exact aL G wf,comp_map cz (λo=>aa (gZ s q B o)) l[k] (λo Q N M hN=>⟨s,d,l,o,q,B,rfl,(X _ r o Q).1,hN⟩) ?_⟩;cases a with
  |none =>
   refine⟨W,g++[none],.fz (.int k),.fz .non,.fz (.lst (l[k].map λo=>aa (gZ s q B o))),?_,by simp[t],λi m j=>?_,λi a p m j=>?_⟩
   .rw[<- V]
    rfl
   .by_cases c:i=k
    .rw[c];exact u none
    .rw[H none (XX (UZ m) c)];exact L i (XX (UZ m) c) j
   .by_cases c:i=k
    .rw[c,e]at j;cases j
    .rw[H none (XX (UZ m) c)];exact J i a p (XX (UZ m) c) j
  |some a =>
   have ld:a<(l[k]).length:=of_decide_eq_true (O.ok k (some a) _ e U);refine⟨l[k].map (gZ s q B),a,by rw[WJ];rfl,by rw[ak];exact ld,by rw[ak];exact G,λx hx=>?_,λb hb=>⟨W,g++[some b],.fz (.int k),.fz (.int a),.fz (.lst (l[k].map λo=>aa (gZ s q B o))),?_,by simp[t],λi m j=>?_,λi d' p m j S=>?_⟩⟩
   .obtain⟨o,Q,rfl⟩:=YV.mp hx;exact(X _ r o Q).2.1
   .rw[<- V]
    rfl
   .by_cases c:i=k
    .rw[c,e]at j;cases j
    .rw[H (some b) (XX (UZ m) c)];exact L i (XX (UZ m) c) j
   .by_cases c:i=k
    .subst c;rw[e]at j;rw[U]at S;cases j;cases S;exact⟨b,u (some b),hb⟩
    .rw[H (some b) (XX (UZ m) c)];exact J i d' p (XX (UZ m) c) j S
 .rintro _ ⟨g,x,y,z,rfl,t,L,J⟩;exact Z g ⟨t,λk e=>L k (ao.mp e).1 e,λk a p e=>J k a p (ao.mp e).1 e⟩
open Rw (sg iu gq bZ iU jt)
def dw(j:zI)(x:Nat->Rat):Rat:=(j.map λw=>w.2*x w.1).sum
def Io(j:zI):Rat:=(j.map (·.2)).sum
theorem cZ(w:Nat×Rat)(j:zI)(x:Nat->Rat):dw (w::j) x=w.2*x w.1+dw j x:=rfl
theorem Br(w:Nat×Rat)(j:zI):Io (w::j)=w.2+Io j:=rfl
theorem Zz{M:Rat}{x:Nat->Rat} : ∀{j:zI},(∀w∈j,0<=w.2/\x w.1<=M)->dw j x<=Io j*M
 |[],_=>by show(0:Rat)<=0*M;rw[Rat.zero_mul];exact VQ
 |w::j,h=>by
  rw[cZ,Br];have:=Zz (j:=j) λv c=>h v (aJ _ c);obtain⟨a,b⟩:=h w (aO ..);have:=UH b a
  grind
theorem C9{m:Nat}{x:Nat->Rat} : ∀{j:zI},(∀w∈j,w.1<m)->sg (λa=>uI j a*x a) m=dw j x
 |[],_=>by
  show sg (λa=>0*x a) m=0;rw[bZ (g:=λ_=>0) λa _=>Rat.zero_mul _,iU]
 |w::j,h=>by
  rw[cZ,<- C9 (m:=m) (j:=j) λv b=>h v (aJ _ b)];rw[bZ (g:=λa=>(if a=w.1 then 1 else 0)*(w.2*x a)+uI j a*x a) λa _=>?_,iu,jt (v:=λa=>w.2*x a),ZY (h w (aO ..))];show((if w.1=a then w.2 else 0)+uI j a)*x a=_;by_cases e:w.1=a
  .rw[ZY e,ZY e.symm];grind
  .rw[ZZ e,ZZ (Ne.symm e)];grind
theorem D1(x:Nat->Rat):∀{m:Nat},0<m->∃i,i<m/\∀j,j<m->x j<=x i
 |0,h=>absurd h (WU _)
 |1,_=>⟨0,VU,λj a=>by rw[show j=0 by exact Nat.eq_zero_of_le_zero (UZ a)];exact VQ⟩
 |m+2,_=>by
  obtain⟨i,b,h⟩:=D1 x (m:=m+1) (TU _);by_cases c:x i<=x (m+1)
  .refine⟨m+1,by exact X2 _,λj a=>?_⟩;by_cases e:j=m+1
   .rw[e];exact VQ
   .exact Tu (h j (XX (UZ a) e)) c
  .refine⟨i,by exact UU b (X2 _),λj a=>?_⟩;by_cases e:j=m+1
   .rw[e];exact Th (Rat.not_le.mp c)
   .exact h j (XX (UZ a) e)
structure ck(s:Rat)(m:Nat)(j:zI):Prop where
 lt:∀w∈j,w.1<m
 nn:∀w∈j,0<=w.2
 one:Io j<=1
def sub_le{j:Nat->zI}(q:0<=s)(o:s<1)(c:∀i,i<m->ck s m (j i))(h:∀i,i<m->x i<=s*dw (j i) x):∀a,a<m->x a<=0:=λa r=>by
 obtain⟨i,n,l⟩:=D1 x (m:=m) wp;refine Tu (l a r) (Rat.not_lt.mp λp=>?_);have b:=c i n;have d:dw (j i) x<=Io (j i)*x i:=Zz λw c=>⟨b.nn w c,l _ (b.lt w c)⟩;have e:Io (j i)*x i<=1*x i:=l_ b.one (Th p);have f:=UH (Tu d e) q;have g:=h i n;have k:s*x i<1*x i:=Rat.mul_lt_mul_of_pos_right o p
 grind
def Xp{a:xp}(b:i<a.length)(h:∀w∈kY (a.getD i none),w.1<a.length):sg (λj=>iC s a i j*x j) a.length=x i-s*dw (kY (a.getD i none)) x:=by
 rw[<- C9 h,bZ (g:=λj=>(if j=i then 1 else 0)*x j+(-s)*(uI (kY (a.getD i none)) j*x j)) λj _=>by unfold iC;grind,iu,gq,jt (v:=x),ZY b]
 grind
def Hy{b:xp}(h:∀i,i<b.length->ck s b.length (kY (b.getD i none))):Bl s b y↔∀i,i<b.length->y i=pU (b.getD i none)+s*dw (kY (b.getD i none)) y:=by
 constructor
 .intro w i a;have:=w i a;rw[Xp a (h i a).lt]at this
  grind
 .intro w i a;rw[Xp a (h i a).lt];have:=w i a
  grind
theorem Ra(x:Nat->Rat):∀j:zI,dw j (λa=>-(x a))=-(dw j x)
 |[]=>by show(0:Rat)=-0;grind
 |w::j=>by rw[cZ,cZ,Ra x j];grind
def Sc{c:xp}(g:0<=s)(f:s<1)(h:∀i,i<c.length->ck s c.length (kY (c.getD i none)))(x:Nat->Rat)(l:∀i,i<c.length->sg (λj=>iC s c i j*x j) c.length=0):∀j,j<c.length->x j=0:=λj k=>by
 have e:∀i,i<c.length->x i=s*dw (kY (c.getD i none)) x:=λi d=>by
  have:=l i d;rw[Xp d (h i d).lt]at this
  grind
 have a:=sub_le g f h (x:=x) (λi d=>by rw[<- e i d];exact VQ) j k;have b:=sub_le g f h (x:=λj=>-(x j)) (λi d=>by
  show -(x i)<=_;rw[Ra,e i d]
  grind) j k
 grind
open Rw (sg iu gq bZ iU jt Big)
def vD(s:Rat)(a:xp):(Fx (Dj s a) (a.map pU)).length=a.length:=by rw[JP,SX,ak,UV]
def WA{a:xp}(c:0<=s)(b:s<1)(h:∀i,i<a.length->ck s a.length (kY (a.getD i none)))(x:Nat->Rat)(g:∀j,a.length<=j->x j=0)(d:∀r∈Fx (Dj s a) (a.map pU),sg (λj=>r.getD j 0*x j) (a.length+1)=0):∀j,j<a.length->x j=0:=by
 refine Sc c b h x λi f=>?_;have:=d _ (aC (YZ f));rw[<- this];show _=sg (λj=>(((range a.length).map λj=>iC s a i j)++[pU (a.getD i none)]).getD j 0*x j) a.length+_*x a.length;rw[g _ (aG _),Rat.mul_zero,Rat.add_zero];exact bZ λj e=>ZH (· * x j) (XJ _ _ e).symm
def Y'{A Q:Nat}{r:xz}(e:1<=A)(d:0<Q)(h:∀c∈r,c.den ∣ Q/\c.num.natAbs<=A*c.den):Big (A*Q) (kI r):=by
 have f:=d9 r VU;have hd:b_ 1 r ∣ Q:=jE r (U1 _) λc a=>(h c a).1;have le:=UX d hd;refine⟨by show(0:Int)<(b_ 1 r:Nat);lia,?_,λt b=>?_⟩
 .show((b_ 1 r:Nat):Int).natAbs<=A*Q;rw[X0];exact aL le (l8 _ e)
 .obtain⟨c,a,rfl⟩:=YV.mp b;rw[VW,X0];refine aL (ki _ (h c a).2) ?_;rw[Nat.mul_assoc,Nat.mul_div_cancel' ((jN r).2 c a)];exact TH _ le
def JW{a:xp}{r:xz}(c:r∈Fx (Dj s a) (a.map pU)):∃i,i<a.length/\r=((range a.length).map λj=>iC s a i j)++[pU (a.getD i none)]:=by
 obtain⟨i,e⟩:=aV c;have b:i<a.length:=by have:=(ao.mp e).1;rw[vD]at this;exact this
 rw[YZ b]at e;injection e with e;exact⟨i,b,e.symm⟩
def abq(A:xz)(k:Nat):(((tops (b_ 1 A) A).getD k 0:Int):Rat)=A.getD k 0*((b_ 1 A:Nat):Rat):=by
 have h:=Ms A k;unfold Rw.vr at h;have a:=d9 A VU;have n:((((b_ 1 A:Nat):Int)):Rat)≠0:=λz=>by have:=Rat.intCast_eq_zero_iff.mp z;lia
 have e:((((b_ 1 A:Nat):Int)):Rat)=((b_ 1 A:Nat):Rat):=rfl;rw[<- e,<- h];show _=(((tops (b_ 1 A) A).getD k 0:Int):Rat)/_*_
 grind
theorem Zc(A:xz):∀j:zI,JF j (tops (b_ 1 A) A)=dw j (λk=>A.getD k 0)*((b_ 1 A:Nat):Rat)
 |[]=>by show(0:Rat)=0*_;rw[Rat.zero_mul]
 |w::j=>by
  show w.2*(((tops (b_ 1 A) A).getD w.1 0:Int):Rat)+JF j _=_;rw[Zc A j,cZ,abq]
  grind
def JD(s:Rat)(y:Nat->Rat)(o:bM):Rat:=o.pay+s*dw o.ways y
def qJ(s:Rat)(A:xz)(o:bM):gZ s (tops (b_ 1 A) A) (b_ 1 A) o=JD s (λk=>A.getD k 0) o*((b_ 1 A:Nat):Rat):=by
 unfold gZ JD;rw[Zc]
 grind
theorem K4{x z:Nat->Rat} : ∀{j:zI},(∀w∈j,x w.1=z w.1)->dw j x=dw j z
 |[],_=>rfl
 |w::j,h=>by rw[cZ,cZ,h w (aO ..),K4 λv a=>h v (aJ _ a)]
theorem Rt{x z:Nat->Rat} : ∀{j:zI},(∀w∈j,0<=w.2/\x w.1<=z w.1)->dw j x<=dw j z
 |[],_=>VQ
 |w::j,h=>by
  rw[cZ,cZ];have:=Rt (j:=j) λv c=>h v (aJ _ c);obtain⟨a,b⟩:=h w (aO ..);have:=UH b a
  grind
theorem Ds(x z:Nat->Rat):∀j:zI,dw j (λa=>x a-z a)=dw j x-dw j z
 |[]=>by show(0:Rat)=0-0;grind
 |w::j=>by rw[cZ,cZ,cZ,Ds x z j];grind
def oW(s:Rat)(y:Nat->Rat)(c:xB):Rat:=pU c+s*dw (kY c) y
def Gm{c:Nat->xB}{z:Nat->Rat}(f:0<=s)(e:s<1)(k:∀i,i<m->ck s m (kY (c i)))(h:∀i,i<m->y i<=oW s y (c i))(g:∀i,i<m->z i=oW s z (c i)):∀i,i<m->y i<=z i:=λi d=>by
 have:=sub_le f e k (x:=λj=>y j-z j) (λi d=>by
  rw[Ds];show y i-z i<=_;have a:=h i d;have b:=g i d;unfold oW at a b
  grind) i d
 grind
def aco{c:Nat->xB}{z:Nat->Rat}(d:0<=s)(h:s<1)(a:∀i,i<m->ck s m (kY (c i)))(l:∀i,i<m->y i<=oW s y (c i))(f:∀i,i<m->z i=oW s z (c i))(b:i<m)(lt:y i<oW s y (c i)):y i<z i:=by
 have le:=Gm d h a l f;have k:=Rt (j:=kY (c i)) (x:=y) (z:=z) λw g=>⟨(a i b).nn w g,le _ ((a i b).lt w g)⟩;have n:=UH k d;have e:=f i b;unfold oW at lt e
 grind
def C_{l:zD}{d:xC}(e:C[i]?=some d):(cb l C).getD i none=d.bind λd=>(l.getD i [])[d]?:=by
 unfold cb;rw[au,aq,List.getElem?_zipIdx,e];simp
def WC{a:List bM}{d b:Nat}(hd:d<a.length)(h:ZQ (a.map (gZ s (tops (b_ 1 A) A) (b_ 1 A))) d b):b=d\/∃o p,a[d]?=some o/\a[b]?=some p/\JD s (λk=>A.getD k 0) o<JD s (λk=>A.getD k 0) p:=by
 rcases h with⟨_,e⟩|⟨lt,c,_⟩
 .exact .inl e
 .rw[ak]at c;refine .inr ⟨_,_,aj hd,aj c,?_⟩;rw[au,au,aq,aq,aj hd,aj c]at lt;have lt:gZ s (tops (b_ 1 A) A) (b_ 1 A) a[d]<gZ s (tops (b_ 1 A) A) (b_ 1 A) a[b]:=lt;rw[qJ,qJ]at lt;have f:=d9 A VU;have p:(0:Rat)<((b_ 1 A:Nat):Rat):=by
   have:((0:Int):Rat)<(((b_ 1 A:Nat):Int):Rat):=Rat.intCast_lt_intCast.mpr wp;exact this
  exact(Rat.mul_lt_mul_right p).mp lt
def vo{l:zD}{p:xm}{B:Nat}{o:zS}(j:cf l C)(h:Rn s l p B C o):cf l o:=by
 refine⟨by rw[h.len,j.len],λk d g f n=>?_⟩;have q:k<C.length:=by rw[<- h.len];exact(ao.mp f).1
 have e:=aj q;have a:=j.ok k _ g e n;cases m:C[k]with
 |none =>
  rw[m]at e a;rw[h.none k e]at f;cases f;exact a
 |some c =>
  rw[m]at e a;obtain⟨b,t,r⟩:=h.some k c g e n;rw[t]at f;cases f;have u:c<g.length:=of_decide_eq_true a;rcases r with⟨_,rfl⟩|⟨_,i,_⟩
  .exact a
  .rw[ak]at i;exact Zs i
def mF{l:zD}{e:zS}{z:Nat->Rat}(v:0<=s)(u:s<1)(hw:∀L∈l,∀o∈L,ck s l.length o.ways)(q:cf l C)(h:Rn s l (tops (b_ 1 A) A) (b_ 1 A) C e)
 (G:∀i,i<l.length->A.getD i 0=oW s (λk=>A.getD k 0) ((cb l C).getD i none))(w:∀i,i<l.length->z i=oW s z ((cb l e).getD i none)):(∀i,i<l.length->A.getD i 0<=z i)/\∀i,i<l.length->e[i]?≠C[i]?->A.getD i 0<z i:=by
 have B:=vo q h;have t:∀{g:zS},cf l g->∀i,i<l.length->ck s l.length (kY ((cb l g).getD i none)):=λ{g}x i a=>by
  have c:=aj (show i<g.length by rwa[x.len]);rw[C_ c];cases g[i]'(by rwa[x.len])with
  |none=>exact⟨λ_ z=>(nomatch z),λ_ z=>(nomatch z),by show(0:Rat)<=1;decide⟩
  |some d =>
   show ck s l.length (kY ((l.getD i [])[d]?));rw[au,aj a];show ck s l.length (kY (l[i][d]?));cases n:l[i][d]? with
   |none=>exact⟨λ_ z=>(nomatch z),λ_ z=>(nomatch z),by show(0:Rat)<=1;decide⟩
   |some o=>exact hw _ (aU a) o (aC n)
 have D:∀i,i<l.length->(e[i]?=C[i]?/\A.getD i 0=oW s (λk=>A.getD k 0) ((cb l e).getD i none))\/A.getD i 0<oW s (λk=>A.getD k 0) ((cb l e).getD i none):=λi a=>by
  have F:i<C.length:=by rwa[q.len]
  have c:=aj F;have r:=aj a;have I:l.getD i []=l[i]:=by rw[au,r];rfl
  have m:=G i a;rw[C_ c]at m;cases n:C[i]with
  |none =>
   rw[n]at c m;have f:=h.none i c;exact .inl ⟨by rw[f,c],by rwa[C_ f]⟩
  |some d =>
   rw[n]at c m;obtain⟨b,f,H⟩:=h.some i d _ c r;have ld:d<(l[i]).length:=of_decide_eq_true (q.ok i (some d) _ c r);rcases WC ld H with rfl|⟨o,p,K,J,lt⟩
   .exact .inl ⟨by rw[f,c],by rwa[C_ f]⟩
   .refine .inr ?_;rw[C_ f,m];show oW s _ ((l.getD i [])[d]?)<oW s _ ((l.getD i [])[b]?);rw[I,K,J];exact lt
 have j:∀i,i<l.length->A.getD i 0<=oW s (λk=>A.getD k 0) ((cb l e).getD i none):=λi a=>(D i a).elim (λz=>by rw[<- z.2];exact VQ) Th;exact⟨Gm (y:=λk=>A.getD k 0) v u (t B) j w,λi a E=>aco (y:=λk=>A.getD k 0) v u (t B) j w a ((D i a).resolve_left λz=>E z.1)⟩
theorem Je{Q:Type}{g:Q->PyData}(h:∀x,PyData.canLay0 (g x)):∀a:List Q,PyData.canLayAll0 (a.map g)
 |[]=>rfl
 |x::a=>by rw[map_cons];unfold PyData.canLayAll0;rw[Je h a,h x];rfl
theorem KJ{Q:Type}{g:Q->PyData}{n:Nat}(h:∀x,PyData.depth (g x)<=n):∀a:List Q,PyData.depthAll (a.map g)<=n
 |[]=>aZ _
 |x::a=>by
  rw[map_cons];unfold PyData.depthAll;have:=KJ h a;have:=h x;lia
theorem KN{Q:Type}{g:Q->PyData}{h:Q->T}(e:∀x,h x=hY (g x)):∀a:List Q,a.map h=i' (a.map g)
 |[]=>rfl
 |x::a=>by rw[map_cons,map_cons,KN e a,e x];rfl
theorem V7{Q:Type}[DecidableEq Q]{g:Q->PyData}(h:∀x y,PyData.eqv (g x) (g y)=decide (x=y)):∀a A:List Q,PyData.eqvAll (a.map g) (A.map g)=decide (a=A)
 |[],[]=>rfl
 |[],_::_=>rfl
 |_::_,[]=>rfl
 |x::a,y::A=>by
  rw[map_cons,map_cons];unfold PyData.eqvAll;rw[h,V7 h a A,<- Bool.decide_and];exact decide_eq_decide.mpr ⟨λz=>by rw[z.1,z.2],λz=>List.cons.inj z⟩
structure EqD{Q:Type}[DecidableEq Q](h:Q->T)(g:Q->PyData):Prop where
 of:∀x,h x=hY (g x)
 lay:∀x,PyData.canLay0 (g x)
 dep:∀x,PyData.depth (g x)<=60
 eqv:∀x y,PyData.eqv (g x) (g y)=decide (x=y)
def EqD.lst{Q:Type}[DecidableEq Q]{h:Q->T}{g:Q->PyData}(E:EqD h g)(a:List Q):SeqAt.shaped (.list (a.map g)):=by
 have c:PyData.canLay0 (.list (a.map g)):=by unfold PyData.canLay0;exact Je E.lay a
 have b:PyData.depth (.list (a.map g))<=64:=by unfold PyData.depth;have:=KJ E.dep a;lia
 unfold SeqAt.shaped;rw[c,Zs b];rfl
def EqD.gEq{Q:Type}[DecidableEq Q]{h:Q->T}{g:Q->PyData}(E:EqD h g){b:Bool}{a c:List Q}{q:OT->Prop}(d:q (.fz (.bl (xr b (decide (a=c)))))):gEq b (.lst (a.map h)) (.lst (c.map h)) q:=by
 refine⟨.list (a.map g),.list (c.map g),ZH L2.T.lst (KN E.of a),ZH L2.T.lst (KN E.of c),E.lst a,E.lst c,?_⟩;unfold PyData.eqv;rwa[V7 E.eqv]
def dD:xC->PyData
 |none=>.none
 |some d=>.int (d:Nat)
def abZ:EqD dT dD:=⟨λx=>by cases x<;>rfl,λx=>by cases x<;>rfl,λx=>by cases x<;>exact aZ _,λx y=>by
 cases x<;>cases y
 .rfl
 .rfl
 .rfl
 .rename_i a b
  show decide ((a:Int)=(b:Int))=_;exact decide_eq_decide.mpr ⟨λz=>by rw[Int.ofNat.inj z],λz=>by rw[Option.some.inj z]⟩⟩
def uZ:zD->List zS
 |[]=>[[]]
 |a::l=>((if a=[]then[none]else(range a.length).map some).map λd=>(uZ l).map λC=>d::C).flatten
theorem Zw:∀{l:zD}{C:zS},cf l C->C∈uZ l
 |[],C,h=>by
  have:=h.len;rw[List.length_eq_zero_iff.mp this];exact YR.mpr rfl
 |a::l,[],h=>by have:=h.len;cases this
 |a::l,d::C,h=>by
  have c:=Zw (l:=l) (C:=C) ⟨Nat.succ.inj h.len,λk d a f e=>h.ok (k+1) d a f e⟩;have b:=h.ok 0 d a rfl rfl;refine List.mem_flatten.mpr ⟨_,YV.mpr ⟨d,?_,rfl⟩,YV.mpr ⟨C,c,rfl⟩⟩;cases d with
  |none =>
   have:a.length=0:=of_decide_eq_true b;rw[ZY (List.length_eq_zero_iff.mp this)];exact YR.mpr rfl
  |some d =>
   have:d<a.length:=of_decide_eq_true b;rw[ZZ λz=>by rw[z]at this;cases this];exact YV.mpr ⟨d,List.mem_range.mpr this,rfl⟩
theorem Qf{Q:Type} : ∀{l l':List Q},l.Nodup->(∀a∈l,a∈l')->l.length<=l'.length
 |[],_,_,_=>aZ _
 |a::l,l',e,h=>by
  obtain⟨s,t,rfl⟩:=List.append_of_mem (h a (aO ..));have c:=List.nodup_cons.mp e;have:=Qf (l:=l) (l':=s++t) c.2 λb d=>by
   have m:=h b (aJ _ d);rcases Y1.mp m with z|z
   .exact U2 _ z
   .rcases YU.mp z with y|y
    .exact absurd (y ▸ d) c.1
    .exact aP _ y
  rw[length_cons,aA,length_cons];rw[aA]at this;lia
def lB(s:Rat)(l:zD)(C:zS)(A:xz):Prop:=A.length=l.length/\∀i,i<l.length->A.getD i 0=oW s (λk=>A.getD k 0) ((cb l C).getD i none)
abbrev gl(s:Rat)(l:zD)(A:xz)(C bS:zS):Prop:=Rn s l (tops (b_ 1 A) A) (b_ 1 A) C bS
structure fF(s:Rat)(l:zD)(N:Nat):Prop where
 s0:0<=s
 s1:s<1
 few:l.length<=100
 sh:∀ds∈l,∀o∈ds,ck s l.length o.ways
 wo:∀C,cf l C->p_ s (cb l C) N
 me:∀A:xz,A.length=l.length->(∀r∈A,FnB ((2*l.length*N)^l.length) r)->kv s l A
 pls:(uZ l).length<sizeLine
def Bo{l:zD}(hw:∀g∈l,∀o∈g,ck s l.length o.ways){a:zS}(b:cf l a)(i:Nat)(c:i<l.length):ck s l.length (kY ((cb l a).getD i none)):=by
 have e:=aj (show i<a.length by rwa[b.len]);rw[C_ e];cases a[i]'(by rwa[b.len])with
 |none=>exact⟨λ_ z=>(nomatch z),λ_ z=>(nomatch z),by show(0:Rat)<=1;decide⟩
 |some d =>
  show ck s l.length (kY ((l.getD i [])[d]?));rw[au,aj c];show ck s l.length (kY (l[i][d]?));cases f:l[i][d]? with
  |none=>exact⟨λ_ z=>(nomatch z),λ_ z=>(nomatch z),by show(0:Rat)<=1;decide⟩
  |some o=>exact hw _ (aU c) o (aC f)
def Vk{l:zD}(c:0<=s)(b:s<1)(f:∀h∈l,∀o∈h,ck s l.length o.ways)(g:cf l C)(e:lB s l C A)(d:lB s l C M)(i:Nat)(a:i<l.length):A.getD i 0=M.getD i 0 :=
 Rat.le_antisymm (Gm (y:=λk=>A.getD k 0) (z:=λk=>M.getD k 0) c b (Bo f g) (λi a=>by rw[<- e.2 i a];exact VQ) d.2 i a) (Gm (y:=λk=>M.getD k 0) (z:=λk=>A.getD k 0) c b (Bo f g) (λi a=>by rw[<- d.2 i a];exact VQ) e.2 i a)
abbrev eR:=List xC×xz
abbrev xL:=List eR
abbrev hL(p:eR):T:=.tup [.lst (p.1.map dT),.lst (p.2.map aa)]
structure Told(s:Rat)(l:zD)(M:Nat)(C:zS)(F:xL):Prop where
 hd:∀p,F[0]?=some p->p.1=C
 ok:∀p∈F,cf l p.1/\lB s l p.1 p.2/\∀r∈p.2,FnB M r
 up:∀(k:Nat)p q,F[k]?=some p->F[k+1]?=some q->gl s l p.2 p.1 q.1/\q.1≠p.1
def More(m:Nat)(A M:xz):Prop:=(∀i,i<m->A.getD i 0<=M.getD i 0)/\∃i,i<m/\A.getD i 0<M.getD i 0
def More.trans{b:xz}(h:More m b A)(k:More m A M):More m b M :=
 ⟨λi a=>Tu (h.1 i a) (k.1 i a),let⟨i,a,l⟩:=h.2;⟨i,a,by have:=k.1 i a;grind⟩⟩
def Mm{l:zD}{b:zS}(d:cf l C)(e:cf l b)(n:b≠C):∃i,i<l.length/\b[i]?≠C[i]?:=by
 refine Classical.byContradiction λc=>n (List.ext_getElem? λi=>?_);by_cases a:i<l.length
 .exact Decidable.byContradiction λz=>c ⟨i,a,z⟩
 .rw[aM (by rw[e.len];exact VS a),aM (by rw[d.len];exact VS a)]
def Told.step{l:zD}{M:Nat}{F:xL}(h:Told s l M C F)(B:fF s l N){p q:eR}(c:F[k]?=some p)(b:F[k+1]?=some q):More l.length p.2 q.2:=by
 obtain⟨u,n⟩:=h.up k p q c b;obtain⟨d,m,_⟩:=h.ok p (aC c);obtain⟨j,g,_⟩:=h.ok q (aC b);obtain⟨f,e⟩:=mF (z:=λk=>q.2.getD k 0) B.s0 B.s1 B.sh d u m.2 g.2;obtain⟨i,a,ne⟩:=Mm d j n;exact⟨f,i,a,e i a ne⟩
def Told.more{s:Rat}{l:zD}{M N:Nat}{C:zS}{F:xL}(h:Told s l M C F)(B:fF s l N){j:Nat}{p:eR}(f:F[j]?=some p):∀(k:Nat){q:eR},j<k->F[k]?=some q->More l.length p.2 q.2
 |0,_,a,_=>absurd a (WU _)
 |k+1,q,a,e=>by
  have g:k<F.length:=by have:=(ao.mp e).1;exact UU (X2 _) this
  have b:=aj g;have d:=h.step B b e;by_cases c:j=k
  .subst c;rw[f]at b;cases b;exact d
  .exact(h.more B f k (XX (UZ a) c) b).trans d
def Told.ne{l:zD}{M:Nat}{F:xL}(h:Told s l M C F)(B:fF s l N){j:Nat}{p q:eR}(a:j<k)(c:F[j]?=some p)(b:F[k]?=some q):p.1≠q.1:=λz=>by
 obtain⟨_,i,e,lt⟩:=h.more B c k a b;obtain⟨g,f,_⟩:=h.ok p (aC c);obtain⟨m,d,_⟩:=h.ok q (aC b);rw[<- z]at d;rw[Vk B.s0 B.s1 B.sh g f d i e]at lt;exact absurd lt (by grind)
def Told.nodup{l:zD}{M:Nat}{F:xL}(h:Told s l M C F)(B:fF s l N):(F.map (·.1)).Nodup:=by
 refine List.pairwise_iff_getElem.mpr λi j c b a=>?_;rw[ak]at c b;rw[UR,UR];exact h.ne B a (aj c) (aj b)
def Told.len{l:zD}{M:Nat}{F:xL}(h:Told s l M C F)(B:fF s l N):F.length<=(uZ l).length:=by
 have:=Qf (h.nodup B) (l':=uZ l) λa c=>by
  obtain⟨p,b,rfl⟩:=YV.mp c;exact Zw (h.ok p b).1
 rwa[ak]at this
def Told.snoc{l:zD}{M:Nat}{F:xL}{x:eR}(h:Told s l M C F)(j:F=[]->x.1=C)(f:cf l x.1/\lB s l x.1 x.2/\∀r∈x.2,FnB M r)(i:∀p,F.getLast?=some p->gl s l p.2 p.1 x.1/\x.1≠p.1):Told s l M C (F++[x]):=by
 refine⟨λp e=>?_,λp g=>?_,λk p q b a=>?_⟩
 .cases F with
  |nil=>cases e;exact j rfl
  |cons y F=>exact h.hd p e
 .rcases Y1.mp g with z|z
  .exact h.ok p z
  .cases YR.mp z;exact f
 .have d:k+1<(F++[x]).length:=(ao.mp a).1;rw[aA,length_singleton]at d;rw[aF (Nat.lt_of_succ_lt_succ d)]at b;by_cases c:k+1<F.length
  .rw[aF c]at a;exact h.up k p q b a
  .rw[aD (VS c),show k+1-F.length=0 by omega]at a;cases a;exact i p (by rw[kj,show F.length-1=k by omega];exact b)
def JE{t:T}{a:xj}{q:OT->Prop}(h:q (.fz t)):nV (.tup (t::a)) (.int 0) q:=h
def SG{c d:RT}{q:Bool->Prop}(b:Bool)(h:∀q:Bool->Prop,q b->mI c d o q)(a:q b):mI c d o q:=h q a
def BL{h:Q->T}{F:List Q}{p:Q}(e:F.getLast?=some p):ca (F.map h) (-1)=some (h p):=by
 show dq (F.map h).reverse 0=_;rw[qm,<- List.map_reverse,aq,<- List.head?_eq_getElem?,List.head?_reverse,e]
 rfl
structure Zy(s:Rat)(l:zD)(M:Nat)(C:zS)(F:xL):Prop where
 told:Told s l M C F
 ne:F≠[]
 last:∀p,F.getLast?=some p->gl s l p.2 p.1 p.1
def IW(D:a'):ST:=λa R=>∃(s:Rat)(d:Φ)(l:zD)(C:zS)(N:Nat),a=[bu D s d l,.lst (C.map dT)]/\yc d l/\cf l C/\fF s l N/\∀F:xL,Zy s l ((2*l.length*N)^l.length) C F->R (.l1 (F.map hL))
def V_(F:Fun K tW tW Dp f G)(T:Txt K mg D)(fj:ag P w K mg base 4 jh gU (pG D))(mX:ag P w K mg base 9 n_ jW (vP D))(Y:ag P w K mg base 5 vA rD (Ie D)):bW P w K mg base ab 10 f G pP (am K (IW D)):=by
 refine F.okT Vq (λn _=>bF (jx (bI fj (bx wn (bx we bC))))
  (bF (lA 2 (eF bC))
  (bF (bO 3 (oV Tp T.M9 boot_list (bx we bC)))
  (bF (E_ (QW.qt (g8 (cj (yA n.units) (Nf 2 (bY eG T.gk VY (bx wa bC))) bA) (eX (cj (qG n.units) wP (bJ (uK 2 (uL bA)) bA)))))
  (bF (uG 2 (dh (bx wP (bx (bI mX (bx wn (bx wP bC))) bC))))
  (bH (bO 3 (bI Y (bx wn (bx wP (bx (bJ (uK 2 (uL bA)) bA) bC))))))))
  (bH (mJ 2)))))) ?_
 rintro _ R ⟨s,d,l,C,N,rfl,h,Q,B,J⟩;generalize eM:(2*l.length*N)^l.length=M at J;refine⟨_,_,_,_,rfl,h,Q,?_⟩;refine⟨λm o=>∃(F:xL)(b:zS),o=[.fz (bu D s d l),.fz (.lst (C.map dT)),.l1 (F.map hL),.fz (.lst (b.map dT))]/\Told s l M C F/\cf l b/\(F=[]->b=C)/\(∀p,F.getLast?=some p->gl s l p.2 p.1 b)/\m+F.length=(uZ l).length,⟨(uZ l).length,[],C,rfl,⟨λ_ z=>(nomatch z),λ_ z=>(nomatch z),λ_ _ _ z=>(nomatch z)⟩,Q,λ_=>rfl,λ_ z=>(nomatch z),rfl⟩,?_⟩;rintro m _ ⟨F,b,rfl,t,hc,c0,V,em⟩;refine SG (decide (F.getLast?.map (·.1)≠some b)) (λq O=>?_) (c4 (λj=>?_) λj=>?_)
 .cases e:F.getLast? with
  |none =>
   have e0:=List.getLast?_eq_none_iff.mp e;subst e0;exact⟨trivial,O⟩
  |some p =>
   have n0:F.length≠0:=λz=>by rw[List.length_eq_zero_iff.mp z]at e;cases e
   rw[e]at O;refine⟨trivial,dz (Zp (by rw[ak];lia)) ⟨_,BL e,?_⟩⟩;dsimp only[rC,frz];refine JE (t:=.lst (p.1.map dT)) ?_;refine abZ.gEq ?_;have e2:xr true (decide (b=p.1))=decide ((some p).map (·.1)≠some b):=by
    by_cases c:b=p.1
    .rw[Zs c,c];simp
     rfl
    .rw[Zp c];have:¬(p.1=b):=λz=>c z.symm;simp[this]
     rfl
   rwa[e2]
 .refine⟨λo'=>∃(A:xz)(g:zS),o'=[.fz (bu D s d l),.fz (.lst (C.map dT)),.l1 ((F++[(b,A)]).map hL),.fz (.lst (g.map dT))]/\lB s l b A/\(∀r∈A,FnB M r)/\gl s l A b g,?_,?_⟩
  .rintro _ ⟨A,g,rfl,h1,h2,S⟩;have I:Told s l M C (F++[(b,A)]):=t.snoc c0 ⟨hc,h1,h2⟩ λp e=>⟨V p e,λz=>j (by rw[e];exact ZH some z.symm)⟩;have a:=I.len B;rw[aA,length_singleton]at a;refine⟨(uZ l).length-(F.length+1),by omega,F++[(b,A)],g,rfl,I,vo hc S,λz=>absurd z wr,λp e=>?_,by rw[aA,length_singleton];exact kl a⟩;rw[List.getLast?_concat]at e;cases e;exact S
  .have sl:(F.map hL).length<sizeLine:=by
    rw[ak];have:=t.len B;have:=B.pls;lia
   refine⟨s,d,l,b,N,rfl,h,hc,B.few,B.wo b hc,λy hw hb=>⟨sl,?_⟩⟩;have W:((range l.length).map y).map aa=(range l.length).map λi=>aa (y i):=by rw[WJ];rfl
   have E:((range l.length).map y).length=l.length:=by rw[ak,WH]
   have H:∀k,k<l.length->((range l.length).map y).getD k 0=y k:=λk hk=>by rw[au,aq,Up hk];rfl
   have U:∀r∈(range l.length).map y,FnB ((2*l.length*N)^l.length) r:=λr n=>by
    obtain⟨i,u,rfl⟩:=YV.mp n;exact hb i (List.mem_range.mp u)
   have X:lB s l b ((range l.length).map y):=⟨E,λi u=>by
    have Z:=Bo B.sh hc;have g:=Hv hc;rw[H i u,(Hy (by rwa[g])).mp hw i (by rwa[g])];unfold oW;rw[K4 (x:=λk=>((range l.length).map y).getD k 0) (z:=y) λw v=>H w.1 ((Z i u).lt w v)]⟩
   rw[<- W];have el:(F++[(b,(range l.length).map y)]).getLast?=some (b,(range l.length).map y):=by simp
   have L:=BL (h:=hL) el;rw[bf]at L;refine⟨_,L,s,d,l,b,(range l.length).map y,rfl,h,hc,B.me _ E U,λg v=>⟨_,g,?_,X,eM ▸ U,v⟩⟩;rw[bf]
   rfl
 .have j:F.getLast?.map (·.1)=some b:=Decidable.not_not.mp j;refine J F ⟨t,(λz=>by rw[z]at j;cases j),λp e=>?_⟩;rw[e]at j;cases j;exact V p e
def gO{i:Int}(h:i.natAbs<18446744073709551616):Bd i:=aR h (aL (by decide:18446744073709551616<=2^64) (XG wf wf))
abbrev kG(d:xm):T:=.scr (d.map T.int)
def Sy:ST:=λa q=>∃(d:xm)(k:Nat),a=[kG d,.int (k:Nat)]/\d.length<=100/\q (.fz (.int (d.getD k 0)))
def Fg{b:Type}(h:Q->b)(l:List Q)(lo a:xo):j9 (l.map h) lo a=(j9 l lo a).map h:=by unfold j9;rw[ak,map_take,List.map_drop]
def WF(l:List Q)(k:Nat):j9 l (some (k:Int)) (some ((k:Int)+1))=(l.drop k).take 1:=by
 unfold j9 HT.sIx;show List.take ((if(k:Int)+1<0 then _ else min ((k:Int)+1).toNat l.length)-(if(k:Int)<0 then _ else min (k:Int).toNat l.length)) (List.drop (if(k:Int)<0 then _ else min (k:Int).toNat l.length) l)=_;rw[ZZ wp,ZZ (Int.not_lt_of_ge (WZ _))];by_cases h:k<l.length
 .rw[show min ((k:Int)+1).toNat l.length=k+1 by lia,show min (k:Int).toNat l.length=k by lia,show k+1-k=1 by exact QU _ _]
 .rw[show min (k:Int).toNat l.length=l.length by lia,List.drop_length,JS (VS h),take_nil,take_nil]
def TC(F:Fun K Gf Gf Ye f G):bW P w K mg base ab 1 f G BJ (am K Sy):=by
 refine F.okT _m (λ_ _=>bH (bN (bJ (bL dg (pY wn (j6 we) (j6 (bL dg we bA))) (eF (bx bA bC))) bA))) ?_;rintro _ R ⟨d,k,rfl,a,q⟩;have e:j9 (d.map L2.T.int) (some (k:Int)) (some ((k:Int)+1))=((d.drop k).take 1).map L2.T.int:=by rw[Fg,WF]
 refine⟨?_,.int (d.getD k 0),?_,q⟩
 .show(j9 (d.map L2.T.int) (some (k:Int)) (some ((k:Int)+1))).length+1<=sizeLine;rw[e,ak,aY];exact aL (show _<=2 by lia) wf
 .show ca (j9 (d.map L2.T.int) (some (k:Int)) (some ((k:Int)+1))++[L2.T.int 0]) 0=_;rw[e];by_cases h:k<d.length
  .rw[ka h,List.take_succ_cons,au,aj h]
   rfl
  .rw[JS (VS h),au,aM (VS h)]
   rfl
def strN(c:Int):Nat->Int×Int
 |0=>((c%1999999973+31)*765432101%1999999973,if c<0\/10^18<=c then(c.natAbs:Int)else 0)
 |k+1=>(((strN c k).1*((strN c k).1%65521+40487)+7*(k:Int)+5)%1999999973,(strN c k).2.fdiv 1000000)
def yT(c:Int)(k:Nat):Int:=if 0<(strN c k).2 then(strN c k).2%1000000 else(strN c (k+1)).1
def Y9(c:Int):∀k,0<=(strN c k).1/\(strN c k).1<1999999973
 |0=>⟨Z3 _ wf,YY _ wf⟩
 |_+1=>⟨Z3 _ wf,YY _ wf⟩
def m_(c:Int)(k:Nat):0<=yT c k/\yT c k<2000000000:=by
 unfold yT;have:=Y9 c (k+1);split<;>lia
abbrev mL(c:Int)(n:Nat):xm:=(range n).map (yT c)
def oZ:ST:=λa q=>∃(c:Int)(n:Nat),a=[.int c,.int (n:Nat)]/\n<=1000/\q (.l1 ((mL c n).map T.int))
def aaI(F:Fun K j5 j5 Ku f G)(T:Txt K mg D):bW P w K mg base ab 1 f G jk (am K oZ):=by
 refine F.okT aaL (λ_ _=>bF (lA 2 (eF bC))
  (bF (bO 3 (bL cM (bL cQ (bL dg (bL cM wn bA) bA) bA) bA))
  (bF (bO 4 bA)
  (bF (cG (QW.qt (g8 (cj CV wn bA) (eX (cj DI wn (bL Yy bA bA)))))
  (bH (bO 4 (bY L_ T.U5 boot_abs (bx wn bC))))
  bQ)
  (bF (eV (fM T.gF (bx we bC)) (cB (n:=99) 5)
  (bF (bO 3 (bL cM (bL dg (bL dg (bL cQ wP (bL dg (bL cM wP bA) bA)) (bL cQ bA (qv 5))) bA) bA))
  (bF (uG 2 (bJ (eF (bx wP (bx (bL cM wE bA) bC))) (oV Rp T.Qc boot_int (bx (xH I_ wE bA) bC))))
  (bH (bO 4 (bL o7 wE bA))))))
  (bH (mJ 2))))))) ?_
 rintro _ R ⟨c,n,rfl,e,q⟩;refine F5 (λo=>o=[.fz (.int c),.fz (.int (n:Nat)),.l1 [],.fz (.int (strN c 0).1),.fz (.int (strN c 0).2),.und]) ?_ λY d=>?_
 .rintro _ rfl;refine⟨⟨by lia,by lia⟩,?_⟩;refine Aw (λk o=>∃x,o=[.fz (.int c),.fz (.int (n:Nat)),.l1 ((mL c k).map L2.T.int),.fz (.int (strN c k).1),.fz (.int (strN c k).2),x]) ⟨_,rfl⟩ ?_ ?_
  .rintro k _ g ⟨x,rfl⟩;have b:=Y9 c k;refine⟨by decide,⟨gO wp,gO wp⟩,⟨gO wf,gO wp⟩,by decide,by decide,.int (yT c k),?_,?_,⟨by decide,gO wf⟩,.fz (.int k),?_⟩
   .by_cases h:0<(strN c k).2
    .rw[Zs h];unfold yT;rw[ZY h]
     rfl
    .rw[Zp h];unfold yT;rw[ZZ h]
     rfl
   .rw[ak,ak,WH];exact aR (show k<1001 by lia) wf
   .rw[show mL c (k+1)=mL c k++[yT c k]by simp[mL,range_succ],bf]
    rfl
  .rintro _ ⟨x,rfl⟩;exact q
 .refine⟨by decide,⟨gO wp,gO wf⟩,by decide,?_⟩;refine c4 (λh=>d _ ?_) λh=>⟨⟨by decide,by decide,by decide⟩,c4 (λa=>d _ ?_) λa=>d _ ?_⟩
  .show _=[_,_,_,_,OT.fz (L2.T.int (if c<0\/10^18<=c then(c.natAbs:Int)else 0)),_];rw[ZY (.inl h)]
   rfl
  .show _=[_,_,_,_,OT.fz (L2.T.int (if c<0\/10^18<=c then(c.natAbs:Int)else 0)),_];rw[ZY (.inr a)]
   rfl
  .show _=[_,_,_,_,OT.fz (L2.T.int (if c<0\/10^18<=c then(c.natAbs:Int)else 0)),_];rw[ZZ (λz=>z.elim h a)]
   rfl
def Xg:ST:=λc q=>∃a b:Int,c=[.int a,.int b]/\q (.fz (.int (Int.gcd a b)))
def OZ(F:Fun K Lw Lw p0 f G)(T:Txt K mg D):bW P w K mg base ab 1 f G p8 (am K Xg):=by
 refine F.okT DU (λ_ _=>bF (Q5 (bY abo T.adF boot_sorted (bx (eF (bx (bY L_ T.U5 boot_abs (bx wn bC)) (bx (bY L_ T.U5 boot_abs (bx we bC)) bC))) bC)) (RC (n:=2) rfl (bT (cB (n:=99) 2) (bT (cB (n:=99) 3) dN))))
  (bF (E_ (cj I_ wa bA)
  (bH (RF 2 3 rfl DU.nd wf (bx (bL cM wP wa) (bx wa bC)))))
  (bH (bN wP)))) ?_
 rintro _ R ⟨a,b,rfl,q⟩;refine⟨[(a.natAbs:Int),(b.natAbs:Int)],rfl,by simp,λe d k=>?_⟩;obtain⟨l,h,rfl,c⟩ : ∃l h:Nat,e=[(l:Int),(h:Int)]/\Nat.gcd l h=Int.gcd a b:=by
  have i:=d.length_eq
  match e,i with
  |[x,y],_ =>
   have j:x=(a.natAbs:Int)\/x=(b.natAbs:Int):=by simpa using d.subset (aO ..)
   rcases j with rfl|rfl
   .have:=(List.perm_cons _).mp d;have:=List.perm_singleton.mp this;cases this;exact⟨_,_,rfl,rfl⟩
   .have:=(List.perm_cons _).mp (d.trans (List.Perm.swap _ _ _));have:=List.perm_singleton.mp this;cases this;exact⟨_,_,rfl,gcd_comm _ _⟩
 refine⟨rfl,λm o=>∃(l h:Nat),o=[.fz (.int a),.fz (.int b),.fz (.int l),.fz (.int h)]/\Nat.gcd l h=Int.gcd a b/\m=l,⟨_,_,_,rfl,c,rfl⟩,?_⟩;rintro m _ ⟨l,h,rfl,c,rfl⟩;refine c4 (λg=>?_) λg=>?_
 .refine⟨λo=>o=[.fz (.int a),.fz (.int b),.fz (.int ((h%m:Nat):Int)),.fz (.int m)],?_,?_⟩
  .rintro _ rfl;exact⟨h%m,mod_lt _ wp,h%m,m,rfl,(Nat.gcd_rec m h).symm.trans c,rfl⟩
  .exact⟨g,by rw[Int.natCast_emod];rfl⟩
 .have:m=0:=by lia
  subst this;rw[Nat.gcd_zero_left]at c;rw[<- c]at q;exact q
def Bk:ST:=λc q=>∃a b:Int,c=[.int a,.int b]/\0<b/\Bd b/\q (.fz (aa (divInt a b)))
def aaA(F:Fun K rH rH Lh f G)(h:ag P w K mg base 1 Lw p8 Xg):bW P w K mg base ab 2 f G oU (am K Bk):=by
 refine F.okT abp (λ_ _=>bF (bO 2 (bI h (bx wn (bx we bC))))
  (bH (bN (dh (bx (bL o7 wn wa) (bx (bL o7 we wa) bC)))))) ?_
 rintro _ R ⟨a,b,rfl,g,hd,q⟩;have d:b≠0:=by exact WP g
 have e:=pC (a:=a) d;have g1:=Xe (a:=a) d hd;refine⟨_,_,rfl,⟨by exact WP e,g1⟩,⟨by exact WP e,g1⟩,?_⟩;have l:=z9 (t:=a) d (c:=(Int.gcd a b:Nat)) (WP e) wp (XZ e g);rw[<- kE l d]at q;exact q
def Ez:ST:=λa q=>∃r:Rat,a=[aa r]/\q (.fz (.bl true))
def QV(F:Fun K qT qT zE f G)(T:Txt K mg D)(b:ag P w K mg base 1 Lw p8 Xg):bW P w K mg base ab 2 f G m8 (am K Ez):=by
 refine F.okT Sv (λa _=>bF (cG (QW.qt (g8 (cY (cN (wL .tuple wn T.fG T.ZL boot_tuple))) (eX (cj (qG a.units) (bY eG T.gk VY (bx wn bC)) bA))))
  (bH (bN mV))
  bQ)
  (bF (eV (Op wn) (cB (n:=99) 1)
  (bH (cG (QW.qt (g8 (cY (cN (wL .int we T.fG T.Qc boot_int))) (eX (cN (wL .bool we T.fG T.ac9 boot_bool)))))
  (bH (bN mV))
  bQ)))
  (bH (bN (Le (xH I_ (bJ wn bA) bA) (K5 (xH (yA a.units) (bI b (bx (bJ wn bA) (bx (bJ wn bA) bC))) bA))))))) ?_
 rintro _ R ⟨r,rfl,q⟩;have:=r.den_pos;refine⟨λo=>∃x,o=[.fz (aa r),x],?_,⟨_,rfl⟩⟩;rintro _ ⟨x,rfl⟩;refine⟨λo=>∃x,o=[.fz (aa r),x],?_,⟨_,rfl⟩⟩;rintro _ ⟨x,rfl⟩;refine fh (Zs wp) ⟨_,_,rfl,?_⟩;rw[show Int.gcd r.num r.den=1 from r.reduced];exact q
def uo:ST:=λa q=>∃(u:xz)(m:Nat),a=[.lst (u.map aa),.int (m:Nat)]/\u.length=m/\m<=1000/\q (.fz (.bl true))
def O7(F:Fun K lO lO qZ f G)(T:Txt K mg D)(c:ag P w K mg base 2 qT m8 Ez):bW P w K mg base ab 3 f G jm (am K uo):=by
 refine F.okT Oh (λd _=>bF (cG (QW.qt (g8 (cY (cN (wL .list wn T.fG T.M9 boot_list))) (eX (cj (qG d.units) (bY eG T.gk VY (bx wn bC)) we))))
  (bH (bN mV))
  bQ)
  (bH (bN (bY (Xf rfl) T.ad3 boot_all (bx (c7 (bG qZ) wW wW ["_law_one"] (cI wn) (d_ (i:=0)) cC (bI c (bx wn bC))) bC))))) ?_
 rintro _ R ⟨u,m,rfl,a,g,q⟩;refine dz (by rw[ak,a,Zs rfl];rfl) ⟨by rw[ak,a];exact aL g wf,comp_map aa (λ_=>.bl true) u (λr _ N M h=>⟨r,rfl,h⟩) ⟨u.map λ_=>true,by rw[WJ];rfl,?_⟩⟩;have e:((u.map λ_=>true).all λb=>b)=true:=by simp
 rw[<- e]at q;exact q
def hZ(c:Nat):Bool:=decide (97<=c)&&decide (c<=122)
def se:xE:=(Str.ofString "abcdefghijklmnopqrstuvwxyz").cps.toList
def PM:∀i:Fin 26,dq se i.val=some (97+i.val):=by decide +kernel
def p6{i:Int}(a:0<=i)(b:i<26):ca se i=some (97+i.toNat):=by
 obtain⟨k,rfl⟩:=Int.eq_ofNat_of_zero_le a;exact PM ⟨k,by lia⟩
def Xc(h:n<26):hZ (97+n):=by
 unfold hZ;rw[Zs (show 97<=97+n by exact X9 _ _),Zs (show 97+n<=122 by lia)];rfl
def qH(x:Str):x.cps.toList.length=x.length:=Array.length_toList
def Zr(x y:Str):(x++y).cps.toList=x.cps.toList++y.cps.toList:=by
 show(x.cps++y.cps).toList=_;rw[Array.toList_append]
def UM(x y:Str):(x++y).length=x.length+y.length:=by
 show(x.cps++y.cps).size=_;rw[Array.size_append];rfl
def EB{x:Str} : (JM x none (some (n:Int))).cps.toList=x.cps.toList.take n:=by
 unfold JM;have a:x.cps.toList.length=x.length:=Array.length_toList;show((x.cps.toList.drop 0).take (HT.sIx x.length x.length (some (n:Int))-0))=_;rw[HT.Ey,drop_zero,sub_zero,<- a];rw[List.take_eq_take_iff];lia
def Ws{x:Str} : (JM x (some (n:Int)) none).cps.toList=x.cps.toList.drop n:=by
 unfold JM;have a:x.cps.toList.length=x.length:=Array.length_toList;show((x.cps.toList.drop (HT.sIx x.length 0 (some (n:Int)))).take (x.length-HT.sIx x.length 0 (some (n:Int))))=_;rw[HT.Ey,<- a];by_cases h:n<=x.cps.toList.length
 .rw[Nat.min_eq_left h];exact lL (by rw[TW];exact aG _)
 .rw[JS (by lia:x.cps.toList.length<=n),JS wp,take_nil]
def ZF{A:List Q}{a b:Nat}(c:a<=b)(h:b<=A.length):j9 A (some (a:Int)) (some (b:Int))=(A.drop a).take (b-a):=by
 unfold j9;rw[HT.Ey,HT.Ey,Nat.min_eq_left h,Nat.min_eq_left (aL c h)]
def DF{x:Str}(h:x.cps.toList.all hZ)(lo:1<=x.length)(a:x.length<=8):Wd x:=by
 unfold Wd lI;rwa[qH,Zs lo,Zs a]
structure ik(d:Φ)(n:Nat):Prop where
 len:d.length=n
 nd:d.Nodup
 wd:∀x∈d,Wd x
def ZG{R:Nat->Str->Prop}(h:∀(i:Nat)x,d[i]?=some x->R i x)(l:d.length=n)(u:∀i j x,i<j->j<n->R i x->R j x->False):d.Nodup:=by
 unfold List.Nodup;rw[List.pairwise_iff_getElem];intro i j c a b e;exact u i j d[i] b (l ▸ a) (h i _ (aj c)) (by rw[e];exact h j _ (aj a))
def Py{g:HG}{c:RT}{e:RE}{q:xj->Prop}(R:Nat->Str->Prop)(n:Nat)(B:∀k,k<n->∀(N:T->Prop)(M:Prop),(∀x,R k x->N (.str x))->g (.int (k:Nat)) o λw=>c w λb=>sw b (e w λy=>N (frz y)) M)(k:∀d:Φ,d.length=n->(∀(i:Nat)x,d[i]?=some x->R i x)->q (d.map T.str)):iI g c e o (rng 0 n) q:=by
 have G:∀(m a:Nat),a+m=n->∀(f:Φ),f.length=a->(∀(i:Nat)x,f[i]?=some x->R i x)->∀{q:xj->Prop},(∀d:Φ,d.length=n->(∀(i:Nat)x,d[i]?=some x->R i x)->(∃J,d=f++J/\q (J.map T.str))\/¬∃J,d=f++J)->iI g c e o ((range' a m).map λk:Nat=>.int ((0:Int)+k)) q:=by
  intro m
  induction m with
  |zero =>
   intro a H f l r q s;rcases s f wp r with⟨J,e,z⟩|z
   .have:J=[]:=by simpa using e
    rw[this]at z;exact z
   .exact absurd ⟨[],(append_nil f).symm⟩ z
  |succ m C =>
   intro a H f l r q s;rw[List.range'_succ,map_cons];refine abt ?_;rw[Int.zero_add];refine B a wp (λt=>iI g c e o ((range' (a+1) m).map λk:Nat=>.int ((0:Int)+k)) λf=>q (t::f)) (iI g c e o ((range' (a+1) m).map λk:Nat=>.int ((0:Int)+k)) q) λx D=>?_;refine C (a+1) wp (f++[x]) (by simp[l]) (λi y h=>?_) λd p u=>?_
   .by_cases F:i<f.length
    .rw[aF F]at h;exact r i y h
    .have E:=(ao.mp h).1;rw[aA,length_singleton]at E;have:i=f.length:=by lia
     subst this;rw[aD (aG _),Nat.sub_self]at h;cases h;exact l ▸ D
   .by_cases z:∃J,d=f++[x]++J
    .obtain⟨J,e⟩:=z;refine .inl ⟨J,e,?_⟩;rcases s d p u with⟨j,A,v⟩|z
     .rw[e,WV]at A;have:=List.append_cancel_left A;rw[<- this]at v;exact v
     .exact absurd ⟨x::J,by rw[e,WV];rfl⟩ z
    .exact .inr z
 have:=G n 0 (Nat.zero_add _) [] rfl (λi x z=>by cases z) (q:=q) λd p u=>.inl ⟨d,rfl,k d p u⟩;rw[<- List.range_eq_range']at this;exact this
def r9(c:Nat)(i:Nat)(x:Str):Prop:=x.cps.toList=replicate (i+1) c
def iP(b:xE)(a:Nat)(c d:Int)(i:Nat)(x:Str):Prop:=x.cps.toList=b.take a++(97+((c+d*i)%26).toNat)::b.drop a
def U'{b:xE}{c:Nat}{d a:Int}{j:Nat}{x:Str}(f:a=1\/a=3\/a=5\/a=7\/a=9\/a=11)(k:i<j)(l:j<26)(h:iP b c d a i x)(g:iP b c d a j x):False:=by
 have e:=h.symm.trans g;have e:=List.append_cancel_left e;injection e with e _;rcases f with rfl|rfl|rfl|rfl|rfl|rfl<;>omega
def OR{c:Nat}{x:Str}(b:hZ c)(a:i<8)(h:r9 c i x):Wd x:=by
 have l:=qH x;rw[h,aN]at l;refine DF ?_ wp wp;rw[h,all_eq_true];intro d hd;rwa[(XV.mp hd).2]
def OI{b:xE}{c:Nat}{e f:Int}{x:Str}(a:b.all hZ)(g:b.length<=7)(h:iP b c e f i x):Wd x:=by
 have l:=qH x;rw[h,aA,length_cons,aY,TW]at l;refine DF ?_ wp (by omega);rw[h,all_eq_true];rw[all_eq_true]at a;intro d hd;rcases Y1.mp hd with hd|hd
 .exact a d (List.mem_of_mem_take hd)
 .rcases YU.mp hd with rfl|hd
  .exact Xc wp
  .exact a d (List.mem_of_mem_drop hd)
theorem P0:∀(A:Φ)(a:Array Nat),(A.foldl (λa p=>a++(Str.ofString "").cps++p.cps) a).toList=a.toList++(A.map λy=>y.cps.toList).flatten
 |[],a=>by simp
 |y::A,a=>by
  have b:(Str.ofString "").cps = #[]:=by decide +kernel
  rw[foldl_cons,P0 A,b,Array.append_empty,Array.toList_append,map_cons,flatten_cons,WV]
def nN(A:Φ):(Txt.join (Str.ofString "") A).cps.toList=(A.map λy=>y.cps.toList).flatten:=by
 show((A.drop 1).foldl (λa p=>a++(Str.ofString "").cps++p.cps) (A.headD Str.empty).cps).toList=_;rw[P0];cases A with
 |nil=>rfl
 |cons y A=>rfl
def NV{c d:RT}{x y z:RS}{E:DT}(b:Bool)(h:∀q:Bool->Prop,q b->n4 c d o q)(e:sw b (x { E with nx:=z E } o) (y { E with nx:=z E } o)):oO (vB (n4 c d) x y) z E o:=h (λk=>sw k (x { E with nx:=z E } o) (y { E with nx:=z E } o)) e
def VJ:ST:=λa q=>∃(c:Int)(n:Nat),a=[.int c,.int (n:Nat)]/\n<=26/\∀d:Φ,ik d n->q (.l1 (d.map T.str))
def fB{c:Int}(h:k<n:=by decide):ca ((mL c n).map T.int) (k:Nat)=some (.int (yT c k)):=by
 show dq ((mL c n).map T.int) k=_;rw[qm,aq,aq,Up h];rfl
def acA(F:Fun K Ew Ew Bx f G)(T:Txt K mg D)(eE:ag P w K mg base 1 j5 jk oZ):bW P w K mg base ab 2 f G yV (am K VJ):=by
 refine F.okT ab8 (λhr _=>bF (bO 2 wO)
  (bF (bO 3 (bI eE (bx wn (bx bA bC))))
  (bF (cG (QW.qt (Te (cj (yA hr.units) (bL cM (bJ wP bA) bA) bA) (Rk (cj CN we bA))))
  (bH (bN (c7 (bG Bx) wH wH ["_law_k"] (fM T.gF (bx we bC)) (d_ (i:=0)) cC (bL cQ (bJ wP (bL cM (bJ wE bA) bA)) (bL dg wn bA)))))
  bQ)
  (bF (bO 4 (VO wO (bx (c7 (bG Bx) wH wH ["_law_x"] (cI (pY wP (j6 bA) (j6 (bL dg bA (bL cM (bJ wP bA) bA))))) (d_ (i:=0)) cC (bJ wP (bL cM wn bA))) bC)))
  (bF (bO 5 (bL cM (bJ wP bA) bA))
  (bF (bO 6 (bJ (eF (bx bA (bx bA (bx bA (bx bA (bx bA (bx bA bC))))))) (bL cM (bJ wP bA) bA)))
  (bH (bN (c7 (bG Bx) wH wH ["_law_k"] (fM T.gF (bx we bC)) (d_ (i:=0)) cC (bL dg (bL dg (pY (qv 5) QJ (j6 (qv 6))) (bJ wP (bL cM (bL dg (bJ wE bA) (bL cQ (qv 7) wn)) bA))) (pY (qv 5) (j6 (qv 6)) QJ))))))))))) ?_
 rintro _ R ⟨c,n,rfl,X,q⟩;refine⟨c,11,rfl,by decide,?_⟩;have s0:=m_ c 0;have s1:=m_ c 1;have H:(Str.ofString "abcdefghijklmnopqrstuvwxyz").length<=sizeLine:=aL (show _<=1000 by decide +kernel) wf;have U:(rng 0 n).length<=sizeLine:=by rw[rng,ak,WH];exact aL X wf
 dsimp only;refine NV (decide (yT c 0%3=1)&&decide ((n:Int)<=8)) (λq y=>?_) ?_
 .refine⟨_,fB (k:=0),by decide,?_⟩;refine c4 (λh=>?_) λh=>?_
  .rw[Zs h,Bool.true_and]at y;exact y
  .rw[Zp h,Bool.false_and]at y;exact y
 .refine ip (λhb=>?_) λhb=>?_
  .simp only[and_eq_true,decide_eq_true_eq]at hb;refine⟨⟨by lia,by lia⟩,U,Py (r9 (97+(yT c 1%26).toNat)) n (λk hk N M s=>?_) λd r t=>q d ⟨r,ZG t r λi j x V Z J I=>?_,λx o=>?_⟩⟩
   .refine⟨_,fB (k:=1),by decide,H,_,p6 (Z3 _ wf) (YY _ wf),_,rfl,by lia,by lia,λz W=>s z ?_⟩;rw[show((k:Int)+1).toNat=k+1 by lia]at W;exact W
   .have:=ZH List.length (J.symm.trans I);rw[aN,aN]at this;lia
   .obtain⟨i,B⟩:=aV o;have li:=(ao.mp B).1;exact OR (Xc wp) wp (t i x B)
  .obtain⟨m,em,Y⟩ : ∃m:Nat,yT c 1%8=m/\m<=7:=⟨(yT c 1%8).toNat,by lia,by lia⟩;have ec:j9 ((mL c 11).map L2.T.int) (some 2) (some (2+yT c 1%8))=(((mL c 11).drop 2).take m).map L2.T.int:=by
    rw[em,Fg];have:=ZF (A:=mL c 11) (a:=2) (b:=2+m) (X9 _ _) (by rw[ak,WH];lia);rw[show 2+m-2=m by exact QU _ _]at this;exact ZH (List.map L2.T.int) this
   have v:(((mL c 11).drop 2).take m).length=m:=by rw[aY,TW,ak,WH];lia
   refine⟨_,fB (k:=1),by decide,?_⟩;dsimp only[frz];show(j9 ((mL c 11).map L2.T.int) (some 2) (some (2+yT c 1%8))).length<=sizeLine/\_;rw[ec];have u:∀x∈((mL c 11).drop 2).take m,0<=x:=λx o=>by
    obtain⟨k,_,rfl⟩:=YV.mp (List.mem_of_mem_drop (List.mem_of_mem_take o));exact(m_ c k).1
   generalize((mL c 11).drop 2).take m=l at v u ⊢;have e0:(Str.ofString "").length=0:=by decide +kernel
   refine⟨by rw[ak,v];exact aL Y wf,comp_map L2.T.int (λx=>.str ⟨#[97+(x%26).toNat]⟩) l (λx o N M s=>⟨by decide,H,_,p6 (Z3 _ wf) (YY _ wf),s⟩) ⟨l.map λx=>⟨#[97+(x%26).toNat]⟩,by rw[WJ];rfl,?_,?_⟩⟩
   .rw[e0,Nat.mul_zero,Nat.add_zero,WJ,show((λx:Str=>x.length) ∘ λx:Int=>(⟨#[97+(x%26).toNat]⟩ : Str))=λ_=>1 from rfl,map_const',List.sum_replicate_nat];lia
   have O:(Txt.join (Str.ofString "") (l.map λx=>(⟨#[97+(x%26).toNat]⟩ : Str))).cps.toList=l.map λx=>97+(x%26).toNat:=by
    rw[nN,WJ]
    clear v u ec
    induction l with
    |nil=>rfl
    |cons x l ih=>rw[map_cons,flatten_cons,ih];rfl
   have C:(Txt.join (Str.ofString "") (l.map λx=>(⟨#[97+(x%26).toNat]⟩ : Str))).length<=7:=by rw[<- qH,O,ak];exact aL (WG v) Y
   have Q:(l.map λx=>97+(x%26).toNat).all hZ=true:=by
    rw[all_eq_true];intro g hd;obtain⟨x,o,rfl⟩:=YV.mp hd;exact Xc wp
   rw[<- O]at Q;generalize Txt.join (Str.ofString "") (l.map λx=>(⟨#[97+(x%26).toNat]⟩ : Str))=E at C Q ⊢
   clear O
   have s9:=m_ c 9;have s10:=m_ c 10;obtain⟨p,L,pE⟩ : ∃p:Nat,yT c 9%8=p/\p<=7:=⟨(yT c 9%8).toNat,by lia,by lia⟩;obtain⟨sv,es,hs⟩ : ∃sv:Int,ca [L2.T.int 1,L2.T.int 3,L2.T.int 5,L2.T.int 7,L2.T.int 9,L2.T.int 11] (yT c 10%6)=some (.int sv)/\(sv=1\/sv=3\/sv=5\/sv=7\/sv=9\/sv=11):=by
    obtain e|e|e|e|e|e:yT c 10%6=0\/yT c 10%6=1\/yT c 10%6=2\/yT c 10%6=3\/yT c 10%6=4\/yT c 10%6=5:=by lia
    .exact⟨1,by rw[e];rfl,by decide⟩
    .exact⟨3,by rw[e];rfl,by decide⟩
    .exact⟨5,by rw[e];rfl,by decide⟩
    .exact⟨7,by rw[e];rfl,by decide⟩
    .exact⟨9,by rw[e];rfl,by decide⟩
    .exact⟨11,by rw[e];rfl,by decide⟩
   have z7:(16:Nat)<=sizeLine:=by decide
   refine⟨_,fB (k:=9),by decide,?_⟩;dsimp only[frz];rw[L];refine⟨_,fB (k:=10),by decide,_,es,⟨by lia,by lia⟩,U,Py (iP E.cps.toList p (yT c 0) sv) n (λk hk N M s=>?_) λd r t=>q d ⟨r,ZG t r λi j x V Z J I=>U' hs V (aR Z X) J I,λx o=>?_⟩⟩
   .have t1:(JM E none (some (p:Int))).length<=7:=by rw[<- qH,EB,aY,qH];lia
    have t2:(JM E (some (p:Int)) none).length<=7:=by rw[<- qH,Ws,TW,qH];exact aL (Nat.sub_le _ _) C
    have S:∀g:Nat,({ cps:=#[g] } : Str).length=1:=λ_=>rfl;refine⟨by exact aL C wf,_,fB (k:=0),⟨gO wp,gO wp⟩,by decide,H,_,p6 (Z3 _ wf) (YY _ wf),by rw[S];lia,by exact aL C wf,by rw[UM,S];lia,s _ ?_⟩;unfold iP;rw[Zr,Zr,EB,Ws,WV];rfl
   .obtain⟨i,B⟩:=aV o;exact OI Q (by rwa[qH]) (t i x B)
def Yj(l:List Q)(h:Q->T){i:Int}(c:0<=i)(d:i<l.length):∃a∈l,ca (l.map h) i=some (h a):=by
 obtain⟨k,rfl⟩:=Int.eq_ofNat_of_zero_le c;have b:k<l.length:=by lia
 refine⟨l[k],aU b,?_⟩;show dq (l.map h) k=_;rw[qm,aq,aj b];rfl
def div_pos{a:Int}(f:0<b):(divInt a b).den<=b.toNat/\(divInt a b).num.natAbs<=a.natAbs:=by
 have l:=z9 (t:=a) (b:=b) (c:=(Int.gcd a b:Nat)) (WP f) (by have:=pC (a:=a) (b:=b) (WP f);exact WP this) wp (XZ (pC (WP f)) f);have e:=kE l (WP f);injection e with e;injection e with g d;injection d with d _;injection g with g;injection d with d;have j:=l.lx;have i:=l.ly;have h:=l.pos;have g:a.fdiv ((Int.gcd a b:Nat):Int)=(divInt a b).num:=g;have d:b.fdiv ((Int.gcd a b:Nat):Int)=((divInt a b).den:Nat):=d;rw[g]at j;rw[d]at i h;omega
def Xh{a:Int}(d:0<=a)(h:a<b):0<=divInt a b/\divInt a b<1:=by
 have c:0<b:=by exact Int.lt_of_le_of_lt d h
 refine⟨km d (XY c),?_⟩;have e:divInt a b=(a:Rat)/(b:Rat):=UQ a b;rw[e];have f:(0:Rat)<(b:Rat):=by exact_mod_cast c
 rw[Rat.div_lt_iff f,Rat.one_mul]
 exact_mod_cast h
structure Shr(s:Rat):Prop where
 lo:0<=s
 hi:s<1
 den:s.den<=100
structure hD(p:Rat):Prop where
 num:p.num.natAbs<=10^30
 den:p.den<=1000
def D9(i:Int):(i*if(!false)=true then 1 else 0)=i:=T1 _
def V2:ST:=λa q=>∃c:Int,a=[.int c,.bl false]/\∀s:Rat,Shr s->q (.fz (aa s))
def adX(F:Fun K GD GD TX f G)(T:Txt K mg D)(l:ag P w K mg base 1 j5 jk oZ)(h:ag P w K mg base 2 rH oU Bk):bW P w K mg base ab 3 f G yS (am K V2):=by
 refine F.okT acS (λ_ _=>bF (bO 2 (bI l (bx wn (bx bA bC))))
  (bF (bO 3 (bL dg bA (bL cM (bJ wa bA) (bJ (eF (bx bA (bx bA (bx bA (bx bA bC))))) (bL cQ (bL cM (bJ wa bA) bA) (oV Rp T.Qc boot_int (bx (Kq we) bC)))))))
  (bH (bN (bI h (bx (bL cM (bJ wa bA) wP) (bx wP bC))))))) ?_
 rintro _ R ⟨c,rfl,q⟩;have r:=m_ c 0;have p:=m_ c 1;have o:=m_ c 2;refine⟨c,3,rfl,by decide,_,fB (k:=0),_,fB (k:=1),by decide,⟨gO wp,gO wf⟩,?_⟩;obtain⟨d,hd,j⟩:=Yj [4,6,10,100] L2.T.int (i:=yT c 1%4) (Z3 _ wf) (by show yT c 1%4<4;exact YY _ wf);have g:0<d/\d<=100:=by simp at hd;lia
 refine⟨_,(ZH (ca ([4,6,10,100].map L2.T.int)) (D9 _)).trans j,g.1,?_⟩;have e:0<1+yT c 0%d/\1+yT c 0%d<=100:=by
  have:=Z3 (yT c 0) (show d≠0 by lia);have:=YY (yT c 0) g.1;lia
 refine⟨_,fB (k:=2),e.1,_,_,rfl,e.1,gO (by omega),q _ ?_⟩;generalize 1+yT c 0%d=b at e ⊢;have n:=Z3 (yT c 2) (show b≠0 by lia);have m:=YY (yT c 2) e.1;obtain⟨x,y⟩:=Xh n m;exact⟨x,y,by have:=(div_pos (a:=yT c 2%b) e.1).1;lia⟩
def ER:ST:=λa q=>∃c x y:Int,a=[.int c,.int x,.int y,.bl false]/\(0<=x/\x<2000000000)/\(0<=y/\y<2000000000)/\∀p:Rat,hD p->q (.fz (aa p))
def PV(F:Fun K S7 S7 pV f G)(T:Txt K mg D)(i:ag P w K mg base 2 rH oU Bk):bW P w K mg base ab 3 f G Mu (am K ER):=by
 refine F.okT OW (λj _=>bF (cG (QW.qt (g8 (cN wP) (eX (cj CV (bL cM we bA) bA))))
  (bH (bN (dh (bx (bL qy (bL cM wa bA) bA) (bx bA bC)))))
  bQ)
  (bF (cG (cj CV (bL cM we bA) bA)
  (bH (bN (bI i (bx (bL qy (bL cM wa bA) bA) (bx (bL dg bA (bL cM (bL o7 we bA) bA)) bC)))))
  bQ)
  (bF (cG (cj (yA j.units) (bL cM we bA) bA)
  (bH (bN (dh (bx (bL qy (bL cM wn bA) bA) (bx bA bC)))))
  bQ)
  (bH (bN (bI i (bx (bL qy (bL cM (bL dg (bL Zu wn bA) wa) (bL dg (bL cQ bA (bL Yy bA bA)) bA)) (bL Yy bA bA)) (bx (bL dg bA (bL cM (bL o7 we bA) bA)) bC)))))))) ?_
 rintro _ R ⟨c,x,y,rfl,n,m,q⟩;have g:Bd (10^30):=Y3 (aG _) (by decide +kernel);have lo:∀a b:Int,0<b->a.natAbs<=10^30->b<=1000->R (.fz (aa (divInt a b))):=λa b l k o=>by
  obtain⟨x,y⟩:=div_pos (a:=a) l;exact q _ ⟨aL y k,by lia⟩
 have d:∀a:Int,a.natAbs<=10^30->R (.fz (.tup [.int a,.int 1])):=λa h=>q (a:Rat) ⟨h,show(1:Nat)<=1000 by decide⟩;have p:x.fdiv 8=x/8:=lP _ wf;refine⟨by decide,c4 (λh=>⟨by decide,d _ wp⟩) λh=>⟨by decide,c4 (λh=>⟨by decide,⟨by decide,gO wf⟩,by decide,?_⟩) λh=>⟨by decide,c4 (λh=>⟨by decide,d _ wp⟩) λh=>?_⟩⟩⟩
 .exact⟨_,_,rfl,by lia,gO wp,lo _ _ wp wp wp⟩
 .refine⟨.inr (by constructor<;>decide),⟨by decide,by decide,by decide⟩,⟨gO wf,g⟩,by decide,⟨by decide,by decide,by decide⟩,⟨by decide,gO wf⟩,by decide,?_⟩;exact⟨_,_,rfl,by lia,gO wp,lo _ _ wp (by
   have e:(10:Int)^Int.toNat 30=10^30:=rfl;rw[e];lia) wp⟩
def ee:ST:=λa q=>∃c:Int,a=[.int c]/\∀n:Nat,n<=6->q (.fz (.int (n:Nat)))
def _j(F:Fun K J_ J_ Xn f G)(T:Txt K mg D)(e:ag P w K mg base 1 j5 jk oZ):bW P w K mg base ab 2 f G Gx (am K ee):=by
 refine F.okT _Y (λa _=>bF (bO 1 (bI e (bx wn (bx bA bC))))
  (bF (cG (cj (yA a.units) (bL cM (bJ we bA) bA) bA)
  (bH (bN bA))
  bQ)
  (bF (cG (cj (yA a.units) (bL cM (bJ we bA) bA) bA)
  (bH (bN (bL dg bA (bL cM (bJ we bA) bA))))
  bQ)
  (bH (bN (bL dg bA (bL cM (bJ we bA) bA))))))) ?_
 rintro _ R ⟨c,rfl,q⟩;have d:=m_ c 1;have b:0<=yT c 1:=d.1;refine⟨c,2,rfl,by decide,_,fB (k:=0),by decide,c4 (λh=>q 0 wf) λh=>⟨_,fB (k:=0),by decide,c4 (λh=>⟨_,fB (k:=1),by decide,?_⟩) λh=>⟨_,fB (k:=1),by decide,?_⟩⟩⟩
 .have:=q (5+yT c 1%2).toNat wp;rw[show(((5+yT c 1%2).toNat:Nat):Int)=5+yT c 1%2 by lia]at this;exact this
 .have:=q (1+yT c 1%4).toNat wp;rw[show(((1+yT c 1%4).toNat:Nat):Int)=1+yT c 1%4 by lia]at this;exact this
structure LD where
 sort:Nat
 pay:Rat
 prs:zI
abbrev xk:=List (List LD)
abbrev dc(d:LD):T:=.tup [.int (d.sort:Nat),aa d.pay,.lst (d.prs.map dB)]
structure LDk(m:Nat)(d:LD):Prop where
 sort:d.sort<4
 pay:hD d.pay
 few:d.prs.length<=4
 lt:∀p∈d.prs,p.1<m
 nn:∀p∈d.prs,0<=p.2
 one:Et (d.prs.map (·.2))=1
 dn:∃q:Nat,0<q/\q<=4000/\∀p∈d.prs,p.2.den ∣ q
 s0:d.sort=0->∃a,d.prs=[(a,1)]
 s1:d.sort=1->∃a b x,d.prs=[(a,x),(b,1-x)]
 s2:d.sort=2->∃u:xE,d.prs=u.map λr=>(r,mkRat 1 u.length)
def VC(l:List Q) : j9 l none (some (n:Int))=l.take n:=by
 unfold j9;show(l.drop 0).take (HT.sIx l.length l.length (some (n:Int))-0)=_;rw[HT.Ey,drop_zero,sub_zero];rw[List.take_eq_take_iff];lia
def JX{a:Int}(g:0<b):(divInt a b).den ∣ b.toNat:=by
 have l:=z9 (t:=a) (b:=b) (c:=(Int.gcd a b:Nat)) (WP g) (by have:=pC (a:=a) (b:=b) (WP g);exact WP this) wp (XZ (pC (WP g)) g);have e:=kE l (WP g);injection e with e;injection e with _ f;injection f with f _;injection f with f;have f:b.fdiv ((Int.gcd a b:Nat):Int)=((divInt a b).den:Nat):=f;have d:((Int.gcd a b:Nat):Int) ∣ b:=QR a b;rw[Int.fdiv_eq_ediv_of_dvd d]at f;obtain⟨x,h⟩:=d;have i:=pC (a:=a) (b:=b) (WP g);rw[Int.ediv_eq_of_eq_mul_right (WP i) h]at f;exact Int.natCast_dvd_natCast.mp ⟨(Int.gcd a b:Nat),by rwa[<- f,Int.toNat_of_nonneg (XY g),Int.mul_comm]⟩
theorem Za{S:Int}(a:S≠0):∀j:xm,Et (j.map λw=>divInt w S)=divInt j.sum S
 |[]=>by show(0:Rat)=divInt 0 S;rw[QP]
 |w::j=>by
  show divInt w S+Et (j.map λw=>divInt w S)=divInt (w+j.sum) S;rw[Za a j,ke _ _ a a];refine(QQ (qF a a) a).mpr ?_
  grind
theorem Vv{n:Nat}(h:0<n):∀k:Nat,Et (replicate k (mkRat 1 n))=mkRat k n
 |0=>by show(0:Rat)=mkRat 0 n;rw[Rat.zero_mkRat]
 |k+1=>by
  rw[replicate_succ];show mkRat 1 n+Et (replicate k (mkRat 1 n))=_;rw[Vv h k,Rat.mkRat_add_mkRat _ _ (UK h) (UK h),Rat.mkRat_eq_iff (Nat.mul_ne_zero (UK h) (UK h)) (UK h)]
  push_cast
  grind
def UN(h:0<n):mkRat n n=1:=by
 rw[show(1:Rat)=mkRat 1 1 from rfl,Rat.mkRat_eq_iff (UK h) (Nat.succ_ne_zero _)];lia
def one_sub{a:Int}(c:b≠0):1-divInt a b=divInt (b-a) b:=by
 rw[show(1:Rat)=divInt 1 1 from rfl,Rat.divInt_sub_divInt _ _ wf c,JJ,T1]
def Ut(x:Rat):1-x=⟨(x.den:Int)-x.num,x.den,x.den_nz,by
  have:=x.reduced;show Nat.Coprime ((x.den:Int)-x.num).natAbs x.den;have h:Int.gcd ((x.den:Int)-x.num) (x.den:Int)=1:=by
   rw[Int.gcd_self_sub_left];exact this
  exact h⟩:=by
 rw[Rat.mk_eq_divInt,<- one_sub (lC x),rd]
def _s(x:Rat):aa (1-x)=.tup [.int ((x.den:Int)-x.num),.int x.den]:=by rw[Ut]
def Qm(x:Rat):(1-x).den=x.den:=by rw[Ut]
def LDk.sure{a:Nat}{p:Rat}(c:a<m)(b:hD p):LDk m ⟨0,p,[(a,1)]⟩ :=
 ⟨Nat.zero_lt_succ _,b,TZ rfl,by simp[c],by simp;decide,by simp[Et];exact Rat.add_zero 1,⟨1,by decide,by decide,by simp⟩,λ_=>⟨_,rfl⟩,(λz=>by cases z),(λz=>by cases z)⟩
def LDk.toss{a b q:Nat}{p x:Rat}(i:a<m)(h:b<m)(g:hD p)(d:0<=x)(c:0<=1-x)(f:0<q)(e:q<=4000)(hd:x.den ∣ q):LDk m ⟨1,p,[(a,x),(b,1-x)]⟩ :=
 ⟨TZ rfl,g,TZ rfl,by simp[i,h],by simp[d,c],by simp[Et];grind,⟨q,f,e,by simp[hd,Qm]⟩,(λz=>by cases z),λ_=>⟨_,_,_,rfl⟩,(λz=>by cases z)⟩
def Rs(h:0<n):(mkRat 1 n).den=n:=by
 have e:=YF h;injection e with e;injection e with _ e;injection e with e _;injection e with e;lia
def LDk.even{p:Rat}{u:xE}(b:0<u.length)(c:u.length<=4)(d:∀r∈u,r<m)(e:hD p):LDk m ⟨2,p,u.map λr=>(r,mkRat 1 u.length)⟩:=by
 have nn:(0:Rat)<=mkRat 1 u.length:=by rw[<- Rat.divInt_ofNat];exact km wf (WZ _)
 refine⟨TZ rfl,e,by rw[ak];exact c,λx a=>?_,λx a=>?_,?_,⟨u.length,b,by exact aL c wf,λx a=>?_⟩,(λz=>by cases z),(λz=>by cases z),λ_=>⟨u,rfl⟩⟩
 .obtain⟨r,h,rfl⟩:=YV.mp a;exact d r h
 .obtain⟨r,h,rfl⟩:=YV.mp a;exact nn
 .rw[WJ,show((λx:Nat×Rat=>x.2) ∘ λr=>(r,mkRat 1 u.length))=λ_=>mkRat 1 u.length from rfl,map_const',Vv b,UN b]
 .obtain⟨r,h,rfl⟩:=YV.mp a;rw[Rs b];exact Qr _
def LDk.mix{p:Rat}{u:xE}{j:xm}(i:j.length<=4)(f:∀r∈u,r<m)(hw:∀w∈j,0<=w)(le:j.length<=u.length)(s0:0<j.sum)(s1:j.sum<=4000)(g:hD p):LDk m ⟨3,p,(u.zip j).map λx=>(x.1,divInt x.2 j.sum)⟩:=by
 have d:(u.zip j).map (λx=>x.2)=j:=List.map_snd_zip le;refine⟨TZ rfl,g,by rw[ak,VZ];lia,λx c=>?_,λx c=>?_,?_,⟨j.sum.toNat,by lia,by lia,λx c=>?_⟩,(λz=>by cases z),(λz=>by cases z),(λz=>by cases z)⟩
 .obtain⟨r,h,rfl⟩:=YV.mp c;exact f _ (VX h).1
 .obtain⟨r,h,rfl⟩:=YV.mp c;exact km (hw _ (VX h).2) (XY s0)
 .rw[WJ,show((λx:Nat×Rat=>x.2) ∘ λx:Nat×Int=>(x.1,divInt x.2 j.sum))=(λw=>divInt w j.sum) ∘ λx:Nat×Int=>x.2 from rfl,<- WJ,d,Za (WP s0)];have e:=one_sub (a:=j.sum) (b:=j.sum) (WP s0);rw[Int.sub_self,QP]at e
  grind
 .obtain⟨r,h,rfl⟩:=YV.mp c;exact JX s0
theorem EM:∀{j:xm},(∀w∈j,0<=w)->0<=j.sum
 |[],_=>by decide
 |w::j,h=>by
  have:=h w (aO ..);have:=EM (j:=j) λx a=>h x (aJ _ a);rw[sum_cons];lia
theorem EQ{b:Int} : ∀{j:xm},(∀w∈j,w<=b)->j.sum<=b*j.length
 |[],_=>by simp
 |w::j,h=>by
  have:=h w (aO ..);have:=EQ (j:=j) λx a=>h x (aJ _ a);rw[sum_cons,length_cons];have:b*((j.length+1:Nat):Int)=b*j.length+b:=by grind
  lia
def Zx:ST:=λa q=>∃(c:Int)(m:Nat),a=[.int c,.int (m:Nat),.bl false]/\0<m/\m<=1000/\∀(r:Nat)(d:LD),r<m->LDk m d->q (.fz (.tup [.int (r:Nat),dc d]))
def _N(F:Fun K J3 J3 DG f G)(T:Txt K mg D)(eE:ag P w K mg base 1 j5 jk oZ)(jC:ag P w K mg base 2 rH oU Bk)(qA:ag P w K mg base 3 S7 Mu ER):bW P w K mg base ab 4 f G Ek (am K Zx):=by
 refine F.okT QF (λE _=>bF (bO 3 (bI eE (bx wn (bx bA bC))))
  (bF (bO 4 (c7 (bG DG) vK vK ["_law_x"] (cI (pY wP (j6 bA) (j6 bA))) (d_ (i:=0)) cC (bL cM wn wa)))
  (bF (bO 5 (bL cM (bJ wP bA) bA))
  (bF (bO 6 (fD.out (Zt (iB (Fi (iB (HF (bJ wE bA)) (iB (Fi (iB ZJ (iB ZJ v9))) v9))) v9))))
  (bF (cG (cj (yA E.units) (qv 5) bA)
  (bF (bO 7 (bL dg bA (bL cM (bJ wP bA) bA)))
  (bF (bO 8 (bI jC (bx (bL cM (bJ wP bA) (bL dg (qv 7) bA)) (bx (qv 7) bC))))
  (bH (bO 6 (fD.out (Zt (iB (Fi (iB (HF (bJ wE bA)) (iB (ME 8) v9))) (iB (Fi (iB (HF (bJ wE bA)) (iB (Fi (iB (Qb qy (HF (bJ (qv 8) bA)) (HF (bJ (qv 8) bA))) (iB (HF (bJ (qv 8) bA)) v9))) v9))) v9))))))))
  bQ)
  (bF (cG (cj (yA E.units) (qv 5) bA)
  (bF (bO 4 (pY wE QJ (j6 (bL dg bA (bL cM (bJ wP bA) bA)))))
  (bH (qK (bG DG) vK vK ["_law_room"] (cI wE) (d_ (i:=0)) cC (dh (bx wn (bx (dh (bx bA (bx (bY eG T.gk VY (bx (qv 5) bC)) bC))) bC))) (mC (i:=6) QF.nd rfl (Or.inl rfl)))))
  bQ)
  (bF (cG (cj (yA E.units) (qv 5) bA)
  (bF (lA 9 (c7 (bG DG) vK vK ["_law_x"] (cI (pY wP (j6 bA) (j6 (bL dg bA (bL cM (bJ wP bA) bA))))) (d_ (i:=0)) cC (bL cM wn (bJ (eF (bx bA (bx bA (bx bA (bx bA bC))))) (bL cQ (bL cM (bJ wE bA) bA) (oV Rp T.Qc boot_int (bx (Kq wP) bC)))))))
  (bF (Hr 9 (bL dg (uK 9 (uL bA)) bA) (uL bA))
  (bH (Tc 9 (qK (bG DG) vK vK ["_law_k"] (fM T.gF (bx (bY eG T.gk VY (bx (qv 9) bC)) bC)) (d_ (i:=0)) cC (dh (bx (bJ (qv 5) wn) (bx (bI jC (bx (bJ (qv 10) wn) (bx (bY (YW rfl) T.ad1 boot_sum (bx (qv 10) bC)) bC))) bC))) (mC (i:=6) QF.nd rfl (Or.inl rfl)))))))
  bQ)
  (bH (bN (dh (bx (bL cM (bJ wP bA) we) (bx (dh (bx (qv 5) (bx (bI qA (bx wn (bx (bJ wP bA) (bx (bJ wP bA) (bx wa bC))))) (bx (qv 6) bC)))) bC)))))))))))) ?_
 rintro _ R ⟨c,m,rfl,m0,m1,q⟩;have W:(0:Int)<(m:Nat):=by lia
 have y:∀k,0<=yT c k/\yT c k<2000000000:=m_ c;obtain⟨h,O,U⟩ : ∃h:Nat->Nat,(∀k,h k<m)/\∀k,yT c k%(m:Nat)=(h k:Nat):=⟨λk=>(yT c k%(m:Nat)).toNat,λk=>by
  have:=YY (yT c k) W;have:=Z3 (yT c k) (show((m:Nat):Int)≠0 by exact WP W);show(yT c k%(m:Nat)).toNat<m;lia,λk=>by
  have:=Z3 (yT c k) (show((m:Nat):Int)≠0 by exact WP W);show _=((yT c k%(m:Nat)).toNat:Int);lia⟩
 obtain⟨t,eso,hso⟩ : ∃t:Nat,yT c 6%4=(t:Nat)/\t<4:=⟨(yT c 6%4).toNat,by have:=y 6;lia,by have:=y 6;lia⟩;refine F4 (λo=>∃(x3 x6 Z x8:OT)(B:zI),o=[.fz (.int c),.fz (.int (m:Nat)),.fz (.bl false),.fz (.lst ((mL c 14).map L2.T.int)),x3,.fz (.int (t:Nat)),.fz (.lst (B.map dB)),x6,Z,x8]/\∀p,hD p->LDk m ⟨t,p,B⟩) ?_ λY go=>?_
 .rintro _ ⟨x3,x6,Z,x8,B,rfl,s⟩;refine⟨_,fB (k:=13),W,_,fB (k:=0),_,fB (k:=1),c,_,_,rfl,y 0,y 1,λp C=>?_⟩;have:=q (h 13) ⟨t,p,B⟩ (O 13) (s p C);rw[<- U]at this;exact this
 .refine⟨c,14,rfl,by decide,?_⟩;have ec:j9 ((mL c 14).map L2.T.int) (some 2) (some 6)=[2,3,4,5].map (λk=>L2.T.int (yT c k)):=rfl;show(j9 ((mL c 14).map L2.T.int) (some 2) (some 6)).length<=sizeLine/\iI _ _ _ _ (j9 ((mL c 14).map L2.T.int) (some 2) (some 6)) _;rw[ec];refine⟨show 4<=sizeLine by decide,comp_map (λk=>L2.T.int (yT c k)) (λk=>.int (h k:Nat)) [2,3,4,5] (λk _ N M H=>⟨W,by rwa[U]⟩) ⟨_,fB (k:=6),by decide,?_⟩⟩;dsimp only[frz];rw[eso];refine⟨_,rfl,?_⟩;obtain rfl|rfl|rfl|rfl:t=0\/t=1\/t=2\/t=3:=by lia
  .exact go _ ⟨_,_,_,_,[(h 2,1)],rfl,λp C=>.sure (O 2) C⟩
  .have x8:=y 8;have x9:=y 9;refine⟨_,fB (k:=8),by decide,_,fB (k:=9),by lia,_,_,rfl,by lia,gO wp,_,rfl,_,rfl,?_⟩;obtain⟨b,eb,X,b1⟩ : ∃b:Int,1+yT c 8%6=b/\0<b/\b<=6:=⟨_,rfl,by lia,by lia⟩;rw[eb];have a0:=Z3 (yT c 9) (show b+1≠0 by lia);have a1:=YY (yT c 9) (show 0<b+1 by exact Int.lt_trans X (Int.lt_succ _));generalize yT c 9%(b+1)=a at a0 a1 ⊢;have nn:0<=divInt a b:=km a0 (XY X);have l1:0<=1-divInt a b:=by rw[one_sub (WP X)];exact km (by omega) (XY X)
   have dd:=JX (a:=a) X;generalize divInt a b=x at nn l1 dd ⊢;refine go _ ⟨.fz (.lst ([2,3,4,5].map λk=>L2.T.int (h k:Nat))),.fz (.int b),.fz (aa x),.und,[(h 2,x),(h 3,1-x)],?_,λp C=>.toss (O 2) (O 3) C nn l1 (show 0<b.toNat by lia) wp dd⟩;rw[show[(h 2,x),(h 3,1-x)].map dB=[.tup [.int (h 2:Nat),aa x],.tup [.int (h 3:Nat),aa (1-x)]]from rfl,_s]
   rfl
  .have Z:=y 7;obtain⟨n,en,n0,L⟩ : ∃n:Nat,1+yT c 7%4=(n:Nat)/\0<n/\n<=4:=⟨(1+yT c 7%4).toNat,by lia,by lia,by lia⟩;refine⟨_,fB (k:=7),by decide,?_⟩;show(j9 ([2,3,4,5].map λk=>L2.T.int (h k:Nat)) none (some (1+yT c 7%4))).length<=sizeLine/\iI _ _ _ _ (j9 ([2,3,4,5].map λk=>L2.T.int (h k:Nat)) none (some (1+yT c 7%4))) _;have ec2:j9 ([2,3,4,5].map λk=>L2.T.int (h k:Nat)) none (some (1+yT c 7%4))=(([2,3,4,5].map h).take n).map λr:Nat=>L2.T.int (r:Nat):=by
    rw[en,VC,map_take,WJ]
    rfl
   have rl:(([2,3,4,5].map h).take n).length=n:=by rw[aY];show min n 4=n;lia
   have V:∀r∈([2,3,4,5].map h).take n,r<m:=λr E=>by
    obtain⟨k,_,rfl⟩:=YV.mp (List.mem_of_mem_take E);exact O k
   rw[ec2];generalize([2,3,4,5].map h).take n=u at rl V ⊢;have r0:0<u.length:=by lia
   have e2:(u.map λr=>(r,mkRat 1 u.length)).map dB=u.map λr=>dB (r,mkRat 1 u.length):=by rw[WJ];rfl
   refine⟨by rw[ak];exact aL (show _<=4 by exact aL (WG rl) L) wf,comp_map (λr:Nat=>L2.T.int (r:Nat)) (λr=>dB (r,mkRat 1 u.length)) u (λr E N M H=>?_) (go _ ⟨.fz (.lst (u.map λr:Nat=>L2.T.int (r:Nat))),.und,.und,.und,u.map λr=>(r,mkRat 1 u.length),by rw[e2];rfl,λp C=>.even r0 (aL (WG rl) L) V C⟩)⟩;rw[show dB (r,mkRat 1 u.length)=.tup [.int (r:Nat),aa (mkRat 1 u.length)]from rfl,YF r0,<- ak (f:=λr:Nat=>L2.T.int (r:Nat))]at H;exact H
  .have Z:=y 7;have x12:=y 12;obtain⟨n,en,n0,L⟩ : ∃n:Nat,9+yT c 7%4=((8+n:Nat):Int)/\0<n/\n<=4:=⟨(1+yT c 7%4).toNat,by lia,by lia,by lia⟩;refine⟨_,fB (k:=7),by decide,?_⟩;show(j9 ((mL c 14).map L2.T.int) (some 8) (some (9+yT c 7%4))).length<=sizeLine/\iI _ _ _ _ (j9 ((mL c 14).map L2.T.int) (some 8) (some (9+yT c 7%4))) _;have ec3:j9 ((mL c 14).map L2.T.int) (some 8) (some (9+yT c 7%4))=(((mL c 14).drop 8).take n).map L2.T.int:=by
    rw[en,Fg];have:=ZF (A:=mL c 14) (a:=8) (b:=8+n) (X9 _ _) (by rw[ak,WH];lia);rw[show 8+n-8=n by exact QU _ _]at this;exact ZH (List.map L2.T.int) this
   have ul:(((mL c 14).drop 8).take n).length=n:=by rw[aY,TW,ak,WH];lia
   rw[ec3];generalize((mL c 14).drop 8).take n=l at ul ⊢;obtain⟨d,hd,ed⟩:=Yj [3,3,3,1000] L2.T.int (i:=yT c 12%4) (Z3 _ wf) (by show yT c 12%4<4;exact YY _ wf);have d0:0<d/\d<=1000:=by simp at hd;lia
   refine⟨by rw[ak];exact aL (show _<=4 by exact aL (WG ul) L) wf,comp_map L2.T.int (λx=>L2.T.int (x%d)) l (λx hx N M H=>⟨_,fB (k:=12),by decide,⟨gO wp,gO wf⟩,_,(ZH (ca ([3,3,3,1000].map L2.T.int)) (D9 _)).trans ed,d0.1,H⟩) ?_⟩;have em:l.map (λx=>L2.T.int (x%d))=(l.map (· % d)).map L2.T.int:=by rw[WJ];rfl
   rw[em];have wl:(l.map (· % d)).length=n:=by rwa[ak]
   have Q:∀w∈l.map (· % d),0<=w/\w<1000:=λw hw=>by
    obtain⟨x,_,rfl⟩:=YV.mp hw;have:=Z3 x (show d≠0 by lia);have:=YY x d0.1;lia
   generalize l.map (· % d)=j at wl Q ⊢;obtain⟨J,v,rfl⟩ : ∃J v,j=J++[v]:=by
    rcases List.eq_nil_or_concat j with rfl|⟨J,v,e⟩
    .cases wl;cases n0
    .exact⟨J,v,by rw[e,List.concat_eq_append]⟩
   rw[aA,length_singleton]at wl;have ixl:ca ((J++[v]).map L2.T.int) (-1)=some (.int v):=by
    show dq ((J++[v]).map L2.T.int).reverse 0=_;rw[bf,List.reverse_append]
    rfl
   have ixn:c6 ((J++[v]).map L2.T.int).length (-1)=some J.length:=by
    unfold c6;rw[ak,aA,length_singleton];rw[ZZ wf,ZY wp]
    congr 1
    lia
   refine⟨_,ixl,_,ixn,?_⟩;have es:((J++[v]).map L2.T.int).set J.length (.int (v+1))=(J++[v+1]).map L2.T.int:=by
    rw[bf,bf,List.set_append_right _ _ (by rw[ak];exact aG _),ak,Nat.sub_self]
    rfl
   dsimp only[frz];rw[es];have mw:(J++[v+1]).length=n:=by rwa[aA,length_singleton]
   have mr:∀w∈J++[v+1],0<=w/\w<=1000:=λw hw=>by
    rcases Y1.mp hw with z|z
    .have:=Q w (U2 _ z);lia
    .have:=Q v (aP _ (YR.mpr rfl));rw[YR.mp z];lia
   have s0:0<(J++[v+1]).sum:=by
    have:0<=J.sum:=EM λw hw=>(Q w (U2 _ hw)).1;have:=(Q v (aP _ (YR.mpr rfl))).1;rw[List.sum_append];show 0<J.sum+(v+1+0);lia
   have s1:(J++[v+1]).sum<=1000*(J++[v+1]).length:=EQ λw hw=>(mr w hw).2;generalize J++[v+1]=l at mw mr s0 s1 ⊢;have S:(l.map L2.T.int).length=l.length:=ak ..;have r4:∀k,k<4->([2,3,4,5].map h)[k]?=some (h (k+2)):=λk s=>by
    obtain rfl|rfl|rfl|rfl:k=0\/k=1\/k=2\/k=3:=by lia
    all_goals rfl
   have z:∀k(s:k<l.length),((([2,3,4,5].map h).zip l).map λx=>(x.1,divInt x.2 l.sum))[k]?=some (h (k+2),divInt (l.getD k 0) l.sum):=λk s=>by
    rw[aq,List.getElem?_zip_eq_some (z:=(h (k+2),l.getD k 0)) |>.mpr ⟨r4 k wp,by rw[au,aj s];rfl⟩]
    rfl
   have ep:(range (l.map L2.T.int).length).map (λk=>dB (h (k+2),divInt (l.getD k 0) l.sum))=((([2,3,4,5].map h).zip l).map λx=>(x.1,divInt x.2 l.sum)).map dB:=by
    refine List.ext_getElem? λk=>?_;rw[S];by_cases s:k<l.length
    .rw[aq,Up s,aq,z k s]
     rfl
    .rw[aM (by rw[ak,WH];exact VS s),aM (by rw[ak,ak,VZ];omega)]
   refine⟨⟨by lia,by lia⟩,by rw[rng,ak,WH];exact aL (show _<=4 by lia) wf,Ua (λk=>dB (h (k+2),divInt (l.getD k 0) l.sum)) (l.map L2.T.int).length (λk s N M H=>?_) (go _ ⟨.fz (.lst ([2,3,4,5].map λk=>L2.T.int (h k:Nat))),.und,.und,.fz (.lst (l.map L2.T.int)),(([2,3,4,5].map h).zip l).map λx=>(x.1,divInt x.2 l.sum),by rw[ep];rfl,λp C=>LDk.mix (u:=[2,3,4,5].map h) (aL (WG mw) L) (λr E=>?_) (λw hw=>(mr w hw).1) (show l.length<=4 by exact aL (WG mw) L) s0 wp C⟩)⟩
   .rw[S]at s;have ek:l[k]?=some (l.getD k 0):=by rw[au,aj s];rfl
    have I:=r4 k wp;rw[aq]at I;refine⟨.int (h (k+2):Nat),?_,_,jw ek,l,rfl,_,_,rfl,s0,gO wp,H⟩;show dq _ k=_;rw[qm,aq];cases z2:([2,3,4,5] : xE)[k]? with
    |none=>rw[z2]at I;cases I
    |some g=>rw[z2]at I;injection I with I;show some (L2.T.int (h g:Nat))=_;rw[show h g=h (k+2)from I]
   .obtain⟨k,_,rfl⟩:=YV.mp E;exact O k
structure DSk(m X:Nat)(t:xk):Prop where
 len:t.length=m
 few:∀ds∈t,ds.length<=X
 ok:∀ds∈t,∀d∈ds,LDk m d
abbrev f_(t:xk):wb:=t.map λds=>ds.map dc
abbrev lv(t:xk):T:=.lst (t.map λds=>.lst (ds.map dc))
def XE(t:xk):frz (.l2 (f_ t))=lv t:=by
 show L2.T.lst ((t.map λa=>a.map dc).map L2.T.lst)=_;rw[WJ]
 rfl
def DSk.add{t:xk}(h:DSk m X t){a:List LD}{d:LD}(e:t[k]?=some a)(lt:a.length<X)(hd:LDk m d):DSk m X (t.set k (a++[d])):=by
 refine⟨by rw[VT,h.len],λx b=>?_,λx b y c=>?_⟩
 .rcases List.mem_or_eq_of_mem_set b with z|rfl
  .exact h.few x z
  .rw[aA,length_singleton];exact lt
 .rcases List.mem_or_eq_of_mem_set b with z|rfl
  .exact h.ok x z y c
  .rcases Y1.mp c with z|z
   .exact h.ok a (aC e) y z
   .rw[YR.mp z];exact hd
def RY{t:xk}{r:Nat}{a:List LD}(e:t[r]?=some a):ca ((f_ t).map L2.T.lst) (r:Nat)=some (.lst (a.map dc)):=by
 show dq ((f_ t).map L2.T.lst) r=_;rw[qm,aq,aq,e];rfl
def Uu:ST:=λb q=>∃(d:xm)(a m:Nat),b=[kG d,.int (a:Nat),.int (m:Nat),.bl false]/\d.length<=100/\m<=300/\∀t:xk,DSk m 3 t->q (.l2 (f_ t))
def _B(F:Fun K Fe Fe J1 f G)(T:Txt K mg D)(B:ag P w K mg base 1 Gf BJ Sy)(Q:ag P w K mg base 1 j5 jk oZ)(V:ag P w K mg base 4 J3 Ek Zx):bW P w K mg base ab 5 f G yp (am K Uu):=by
 refine F.okT Vu (λ_ _=>bF (UA (bG J1) SM SM ["_law_k"] (fM T.gF (bx wa bC)) (d_ (i:=0)) cC (eF bC) (mC (i:=4) Vu.nd rfl (Or.inl rfl)))
  (bF (cG (cj I_ wa bA)
  (bF (bO 5 (bI B (bx wn (bx we bC))))
  (bF (bO 6 (bI Q (bx (qv 5) (bx (bL cM (bL cM (bL Zu (qv 5) bA) bA) (bL dg (bL cQ bA wa) bA)) bC))))
  (bH (eV (cI (bL dg (qv 6) (pY wn (j6 (bL dg we bA)) (j6 (bL dg we bA))))) (cB (n:=99) 7)
  (bF (Q5 (bI V (bx (qv 7) (bx wa (bx wP bC)))) (fK (n:=2) (bT (cB (n:=99) 8) (bT (cB (n:=99) 9) dN))))
  (bH (cG (Xx 4 (cj CV (bY eG T.gk VY (bx (bJ wE (qv 8)) bC)) (bL qy bA (oV Rp T.Qc boot_int (bx wP bC)))))
  (bH (Ta 4 (qv 8) (qv 9)))
  bQ)))))))
  bQ)
  (bH (mJ 4)))) ?_
 rintro _ R ⟨d,a,m,rfl,E,v,q⟩;have S:(range m).map (λ_=>([] : List L2.T))=f_ (replicate m []):=by
  unfold f_;rw[List.map_replicate,map_const',WH]
  rfl
 have A:DSk m 3 (replicate m []):=⟨aN,λx s=>by rw[(XV.mp s).2];exact aZ _,λx s y z=>by rw[(XV.mp s).2]at z;cases z⟩;refine⟨⟨by lia,by lia⟩,by rw[rng,ak,WH];exact aL v wf,Vm (λ_=>[]) m (λk Y N M J=>J) ?_⟩;rw[S];refine c4 (λI=>?_) λI=>q _ A;refine⟨d,a,rfl,E,?_⟩;dsimp only[frz];generalize d.getD a 0=e;have g:(0:Int)<3*(m:Nat)+1:=by lia
 obtain⟨n,L,W⟩ : ∃n:Nat,e*48271%104729%(3*(m:Nat)+1)=(n:Nat)/\n<=3*m:=⟨(e*48271%104729%(3*(m:Nat)+1)).toNat,by
  have:=Z3 (e*48271%104729) (show(3*(m:Nat)+1:Int)≠0 by exact WP g);lia,by
  have:=YY (e*48271%104729) g;have:=Z3 (e*48271%104729) (show(3*(m:Nat)+1:Int)≠0 by exact WP g);lia⟩
 refine⟨.inr (by constructor<;>decide),by decide,⟨gO wf,gO wp⟩,g,e,n,by rw[L];rfl,by lia,?_⟩;have O:(mL e n).map L2.T.int++j9 (d.map L2.T.int) (some ((a:Nat)+1)) (some ((a:Nat)+25))=(mL e n++j9 d (some ((a:Nat)+1)) (some ((a:Nat)+25))).map L2.T.int:=by rw[Fg,bf]
 have Z:(j9 d (some ((a:Nat)+1)) (some ((a:Nat)+25))).length<=100:=by
  unfold j9;rw[aY,TW];lia
 show((mL e n).map L2.T.int).length+(j9 (d.map L2.T.int) (some ((a:Nat)+1)) (some ((a:Nat)+25))).length<=sizeLine/\_;refine⟨?_,?_⟩
 .rw[Fg,ak,ak,ak,WH];exact aL (show _<=1100 by lia) wf
 dsimp only[frz];rw[O];have C:(mL e n++j9 d (some ((a:Nat)+1)) (some ((a:Nat)+25))).length<=1100:=by rw[aA,ak,WH];lia
 generalize mL e n++j9 d (some ((a:Nat)+1)) (some ((a:Nat)+25))=U at C ⊢;refine gK L2.T.int U (λ_ o=>∃(t:xk)(p l j:OT),o=[.fz (kG d),.fz (.int (a:Nat)),.fz (.int (m:Nat)),.fz (.bl false),.l2 (f_ t),.fz (.int e),.fz (.lst ((mL e n).map L2.T.int)),p,l,j]/\DSk m 3 t) ⟨_,_,_,_,rfl,A⟩ ?_ ?_
 .rintro _ c _ _ _ ⟨t,p,l,j,rfl,h⟩;refine⟨c,m,rfl,by lia,by exact aL v wf,λr b X hd=>⟨rfl,?_⟩⟩;have H:r<t.length:=by rwa[h.len]
  have u:=aj H;refine⟨_,RY u,c4 (λlt=>?_) λ_=>⟨t,.fz (.int c),.fz (.int (r:Nat)),.fz (dc b),rfl,h⟩⟩;have lt:((t[r].map dc).length:Int)<3:=lt;rw[ak]at lt;refine⟨r,t[r].map dc,?_,by rw[aq,u];rfl,by rw[ak];exact aR (show _<1001 by lia) wf,t.set r (t[r]++[b]),.fz (.int c),.fz (.int (r:Nat)),.fz (dc b),?_,h.add u wp hd⟩
  .unfold c6;rw[ak,ZY (WZ _),ZY wp]
   rfl
  .rw[show f_ (t.set r (t[r]++[b]))=(f_ t).set r (t[r].map dc++[dc b])by
    unfold f_;rw[map_set,bf]
    rfl]
   rfl
 .rintro _ ⟨t,p,l,j,rfl,h⟩;exact q t h
def GZ(j:zI)(p:Nat×Rat):zI:=if(j.any λx=>decide (x.1=p.1))=true then j.map (λx=>if x.1=p.1 then(x.1,x.2+p.2)else x)else j++[p]
def Fw(F:zI):zI:=F.foldl GZ []
def zH(F:zI):zI:=(Fw F).filter λp=>!decide (p.2=0)
abbrev bc(d:Φ)(p:Nat×Rat):Str×Rat:=(d.getD p.1 ⟨#[]⟩,p.2)
def Sx(c:d.Nodup){j:Nat}(b:i<d.length)(a:j<d.length):(d.getD i ⟨#[]⟩=d.getD j ⟨#[]⟩)↔i=j:=by
 constructor
 .intro h;rw[au,au,aj b,aj a]at h;rcases Nat.lt_trichotomy i j with l|l|l
  .exact absurd h ((List.pairwise_iff_getElem.mp c) i j b a l)
  .exact l
  .exact absurd h.symm ((List.pairwise_iff_getElem.mp c) j i a b l)
 .intro h;rw[h]
def RH(b:d.Nodup){p:Nat×Rat}(c:∀w∈j,w.1<d.length)(f:p.1<d.length):cc (j.map (bc d)) (bc d p)=(GZ j p).map (bc d):=by
 have g:((j.map (bc d)).any λx=>decide (x.1=(bc d p).1))=j.any λx=>decide (x.1=p.1):=by
  rw[any_map];refine Bool.eq_iff_iff.mpr ⟨λh=>?_,λh=>?_⟩
  .obtain⟨x,a,e⟩:=List.any_eq_true.mp h;exact List.any_eq_true.mpr ⟨x,a,Zs ((Sx b (c x a) f).mp (of_decide_eq_true e))⟩
  .obtain⟨x,a,e⟩:=List.any_eq_true.mp h;exact List.any_eq_true.mpr ⟨x,a,Zs ((Sx b (c x a) f).mpr (of_decide_eq_true e))⟩
 unfold cc GZ;rw[g];split
 .rw[WJ,WJ];refine Tk λx a=>?_;show(if(bc d x).1=(bc d p).1 then _ else _)=bc d (if x.1=p.1 then _ else _);by_cases e:x.1=p.1
  .rw[ZY e,ZY ((Sx b (c x a) f).mpr e)]
  .rw[ZZ e,ZZ λz=>e ((Sx b (c x a) f).mp z)]
 .rw[bf];rfl
def Kg{p w:Nat×Rat}(h:w∈GZ j p):(w∈j/\w.1≠p.1)\/w=p\/∃x∈j,x.1=p.1/\w=(x.1,x.2+p.2):=by
 unfold GZ at h;split at h
 .obtain⟨x,a,rfl⟩:=YV.mp h;by_cases e:x.1=p.1
  .rw[ZY e];exact .inr (.inr ⟨x,a,e,rfl⟩)
  .rw[ZZ e];exact .inl ⟨a,e⟩
 .rename_i n
  rcases Y1.mp h with z|z
  .exact .inl ⟨z,λe=>n (List.any_eq_true.mpr ⟨w,z,Zs e⟩)⟩
  .exact .inr (.inl (YR.mp z))
def Zh(c:d.Nodup)(h:∀p∈F,p.1<d.length):lU (F.map (bc d))=(Fw F).map (bc d):=by
 suffices H:∀(F j:zI),(∀p∈F,p.1<d.length)->(∀w∈j,w.1<d.length)->(F.map (bc d)).foldl cc (j.map (bc d))=(F.foldl GZ j).map (bc d)from H F [] h λ_ z=>(nomatch z)
 intro F
 induction F with
 |nil=>exact λ_ _ _=>rfl
 |cons p F e =>
  intro j b a;rw[map_cons,foldl_cons,foldl_cons,RH c a (b p (aO ..))];refine e _ (λq g=>b q (aJ _ g)) λw i=>?_;rcases Kg i with⟨z,_⟩|rfl|⟨x,f,_,rfl⟩
  .exact a w z
  .exact b w (aO ..)
  .exact a x f
def _I(a:d.Nodup)(h:∀p∈F,p.1<d.length):GF (F.map (bc d))=(zH F).map (bc d):=by
 unfold GF zH;rw[Zh a h,List.filter_map]
 rfl
def xM{q:Nat}(c:0<q):r.den ∣ q↔∃x:Int,r=divInt x q:=by
 constructor
 .rintro⟨k,rfl⟩;refine⟨r.num*k,?_⟩;have d:((k:Nat):Int)≠0:=λz=>by rw[show k=0 by lia]at c;lia
  conv=>lhs;rw[<- rd r]
  refine(QQ (lC r) (by push_cast;exact qF (lC r) d)).mpr ?_
  push_cast
  grind
 .rintro⟨x,rfl⟩;have:=JX (a:=x) (b:=(q:Nat)) wp;exact this
def yL{b:Rat}{q:Nat}(d:0<q)(f:a.den ∣ q)(e:b.den ∣ q):(a+b).den ∣ q:=by
 obtain⟨x,rfl⟩:=(xM d).mp f;obtain⟨y,rfl⟩:=(xM d).mp e;have c:((q:Nat):Int)≠0:=by lia
 refine(xM d).mpr ⟨x+y,?_⟩;rw[ke _ _ c c];refine(QQ (qF c c) c).mpr ?_
 grind
def di{b:Rat}{q r:Nat}(d:0<q)(c:0<r)(f:a.den ∣ q)(e:b.den ∣ r):(a*b).den ∣ q*r:=by
 obtain⟨x,rfl⟩:=(xM d).mp f;obtain⟨y,rfl⟩:=(xM c).mp e;refine(xM (UP d c)).mpr ⟨x*y,?_⟩;rw[kh]
 push_cast
 rfl
theorem WO : (-a).den=a.den:=rfl
structure im(m q:Nat)(as j:zI):Prop where
 nd:(j.map (·.1)).Nodup
 lt:∀w∈j,w.1<m
 nn:∀w∈j,0<=w.2
 dn:∀w∈j,w.2.den ∣ q
 sum:∀y:Nat->Rat,dw j y=dw as y
 few:j.length<=as.length
def XM(b c:zI)(y:Nat->Rat):dw (b++c) y=dw b y+dw c y:=by
 induction b with
 |nil=>show dw c y=0+_;rw[Rat.zero_add]
 |cons a b d=>rw[cons_append,cZ,cZ,d,Rat.add_assoc]
def EI(p:Nat×Rat)(y:Nat->Rat):dw [p] y=p.2*y p.1:=by rw[cZ];show _+0=_;rw[Rat.add_zero]
def OM{p:Nat×Rat}(a:(j.map (·.1)).Nodup)(y:Nat->Rat):dw (GZ j p) y=dw j y+p.2*y p.1:=by
 unfold GZ;split
 .rename_i h
  induction j with
  |nil=>cases h
  |cons x j d =>
   obtain⟨c,b⟩:=List.nodup_cons.mp a;rw[map_cons,cZ,cZ];by_cases e:x.1=p.1
   .rw[ZY e];have rest:j.map (λx=>if x.1=p.1 then(x.1,x.2+p.2)else x)=j:=by
     conv=>rhs;rw[<- List.map_id j]
     refine Tk λz f=>?_;rw[ZZ λw=>c (YV.mpr ⟨z,f,w.trans e.symm⟩)]
     rfl
    rw[rest,<- e];show(x.2+p.2)*y x.1+dw j y=_
    grind
   .rw[ZZ e,d b (by
     rw[any_cons,Zp e,Bool.false_or]at h;exact h)]
    grind
 .rw[XM,EI]
def NJ{p:Nat×Rat}(a:(j.map (·.1)).Nodup):((GZ j p).map (·.1)).Nodup:=ZX a
def _X{q:Nat}(e:0<q){d:zI}{p:Nat×Rat}(c:p.1<m/\0<=p.2/\p.2.den ∣ q)(h:im m q d j):im m q (d++[p]) (GZ j p):=by
 refine⟨NJ h.nd,λw b=>?_,λw b=>?_,λw b=>?_,λy=>by rw[OM h.nd,h.sum,XM,EI],?_⟩
 .rcases Kg b with⟨z,_⟩|rfl|⟨x,a,_,rfl⟩
  .exact h.lt w z
  .exact c.1
  .exact h.lt x a
 .rcases Kg b with⟨z,_⟩|rfl|⟨x,a,_,rfl⟩
  .exact h.nn w z
  .exact c.2.1
  .have:=h.nn x a;have:=c.2.1;show 0<=x.2+p.2
   grind
 .rcases Kg b with⟨z,_⟩|rfl|⟨x,a,_,rfl⟩
  .exact h.dn w z
  .exact c.2.2
  .exact yL e (h.dn x a) c.2.2
 .have:=h.few;unfold GZ;split
  .rw[ak,aA];exact aL this (X9 _ _)
  .rw[aA,aA];simp;omega
def PK{q:Nat}(e:0<q):∀{F:zI},(∀p∈F,p.1<m/\0<=p.2/\p.2.den ∣ q)->im m q F (Fw F):=by
 intro F h
 suffices H:∀(F a j:zI),(∀p∈F,p.1<m/\0<=p.2/\p.2.den ∣ q)->im m q a j->im m q (a++F) (F.foldl GZ j)from H F [] [] h ⟨.nil,λ_ z=>(nomatch z),λ_ z=>(nomatch z),λ_ z=>(nomatch z),λ_=>rfl,aG _⟩
 intro F
 induction F with
 |nil=>intro a j _ h;rwa[append_nil]
 |cons p F c =>
  intro a j b h;have:=c (a++[p]) (GZ j p) (λx d=>b x (aJ _ d)) (_X e (b p (aO ..)) h);rw[WV]at this;exact this
theorem Ik(y:Nat->Rat):∀j:zI,dw (j.filter λp=>!decide (p.2=0)) y=dw j y
 |[]=>rfl
 |w::j=>by
  by_cases e:w.2=0
  .rw[List.filter_cons_of_neg (by rw[Zs e];decide),Ik y j,cZ,e,Rat.zero_mul,Rat.zero_add]
  .rw[List.filter_cons_of_pos (by rw[Zp e];rfl),cZ,cZ,Ik y j]
def J2{q:Nat}(b:0<q)(h:∀p∈F,p.1<m/\0<=p.2/\p.2.den ∣ q):im m q F (zH F):=by
 have j:=PK b h;have sub:∀w∈zH F,w∈Fw F:=λw a=>(List.mem_filter.mp a).1;refine⟨(List.filter_sublist.map _).nodup j.nd,λw a=>j.lt w (sub w a),λw a=>j.nn w (sub w a),λw a=>j.dn w (sub w a),λy=>?_,aL (List.length_filter_le ..) j.few⟩;unfold zH;rw[Ik,j.sum]
theorem Bs{w:Nat×Rat} : ∀{j:zI},(∀w∈j,0<=w.2)->w∈j->w.2<=dw j λ_=>1
 |[],_,h=>by cases h
 |x::j,a,h=>by
  rw[cZ];have b:∀j:zI,(∀w∈j,0<=w.2)->0<=dw j λ_=>1:=λj=>by
   induction j with
   |nil=>intro _;exact VQ
   |cons y j c =>
    intro h;rw[cZ];have:=h y (aO ..);have:=c λw hw=>h w (aJ _ hw)
    grind
  rcases YU.mp h with rfl|z
  .have:=b j λw hw=>a w (aJ _ hw)
   grind
  .have:=Bs (j:=j) (λw hw=>a w (aJ _ hw)) z;have:=a x (aO ..)
   grind
theorem vI:∀F:zI,(dw F λ_=>1)=Et (F.map (·.2))
 |[]=>rfl
 |p::F=>by
  rw[cZ,vI F,Rat.mul_one]
  rfl
def LDk.all{d:LD}(h:LDk m d):∃q:Nat,0<q/\q<=4000/\∀p∈d.prs,p.1<m/\0<=p.2/\p.2.den ∣ q:=by
 obtain⟨q,c,b,e⟩:=h.dn;exact⟨q,c,b,λp a=>⟨h.lt p a,h.nn p a,e p a⟩⟩
def p4{q:Nat}(a:0<q)(d:q<=4000)(c:0<=r)(b:r<=1)(hd:r.den ∣ q):Ch r:=⟨c,b,gO (by have:=UX a hd;lia)⟩
def LDk.prsOk{c:LD}(h:LDk m c)(z:ik d m):mh (c.prs.map (bc d)):=by
 obtain⟨q,i,l,t⟩:=h.all;have o:∀p∈c.prs,p.2<=1:=λp f=>by
  rw[<- h.one,<- vI];exact Bs h.nn f
 have few:=h.few;have D:(c.prs.map (bc d)).map (·.2)=c.prs.map (·.2):=by rw[WJ];rfl
 refine⟨by rw[ak];exact aL few wf,λp f=>?_,?_,by rw[D];exact h.one,λU a T e=>?_⟩
 .obtain⟨x,v,rfl⟩:=YV.mp f;obtain⟨R,I,H⟩:=t x v;have E:x.1<d.length:=by rwa[z.len]
  refine⟨z.wd _ ?_,p4 i l I (o x v) H⟩;show d.getD x.1 ⟨#[]⟩∈d;rw[au,aj E];exact aU E
 .rw[D];have:=jE (c.prs.map (·.2)) (n:=1) (m:=q) (U1 _) λr N=>by
   obtain⟨x,v,rfl⟩:=YV.mp N;exact(t x v).2.2
  have:=UX i this;exact gO wp
 .obtain⟨k,Q,u,rfl,O⟩:=List.map_eq_append_iff.mp e;obtain⟨g,C,rfl,rfl,rfl⟩:=List.map_eq_cons_iff.mp O;have sub:∀p∈k,p∈c.prs:=λp f=>u ▸ U2 _ f;have A:=t g (u ▸ aP _ (aO ..));have P:Ch g.2:=p4 i l A.2.1 (o g (u ▸ aP _ (aO ..))) A.2.2;have b:=PK i (F:=k) (m:=m) λp f=>t p (sub p f);rw[Zh z.nd λp f=>by rw[z.len];exact(t p (sub p f)).1];have G:Ch (Dq ((Fw k).map (bc d)) (bc d g).1):=by
   unfold Dq;cases B:((Fw k).map (bc d)).find? λx=>decide (x.1=(bc d g).1)with
   |none=>exact⟨VQ,by show(0:Rat)<=1;decide,gO wf⟩
   |some x =>
    obtain⟨y,s,rfl⟩:=YV.mp (List.mem_of_find?_eq_some B);refine p4 i l (b.nn y s) ?_ (b.dn y s);have L:=Bs b.nn s;rw[b.sum]at L;have K:=h.one;rw[<- vI,u,XM]at K;have S:0<=dw (g::C) λ_=>1:=by
     have:∀j:zI,(∀w∈j,0<=w.2)->0<=dw j λ_=>1:=λj=>by
      induction j with
      |nil=>intro _;exact VQ
      |cons y j M =>
       intro h;rw[cZ];have:=h y (aO ..);have:=M λw hw=>h w (aJ _ hw)
       grind
     exact this _ λw hw=>h.nn w (u ▸ aP _ hw)
    show y.2<=1
    grind
  refine⟨G.bq,P.bq,?_⟩;have:=G.2.2;have:=UX i A.2.2;have J:(Dq ((Fw k).map (bc d)) (bc d g).1).den<=4000:=by
   unfold Dq;cases B:((Fw k).map (bc d)).find? λx=>decide (x.1=(bc d g).1)with
   |none=>exact TZ rfl
   |some x =>
    obtain⟨y,s,rfl⟩:=YV.mp (List.mem_of_find?_eq_some B);have:=UX i (b.dn y s);exact aL this l
  refine gO ?_;rw[VW,X0,X0];exact Y3 (W1 J (show g.2.den<=4000 by exact aL this l)) wf
def c_(D:a'):Nat->Addr
 |0=>D.Sure
 |1=>D.Toss
 |2=>D.Even
 |_=>D.Mixed
abbrev Tv(t:Str)(d:LD):bM:=⟨t,d.pay,zH d.prs⟩
abbrev Aq(D:a')(t:Str)(d:LD):Made:=⟨c_ D d.sort,Tv t d⟩
def acs(D:a'):∀k,dO D (c_ D k)
 |0=>by unfold dO c_;simp
 |1=>by unfold dO c_;simp
 |2=>by unfold dO c_;simp
 |_+3=>by unfold dO c_;simp
def Wt(D:a'):ST:=λb q=>∃(t:Str)(a:LD)(d:Φ)(m:Nat),b=[.str t,dc a,.lst (d.map T.str)]/\Wd t/\ik d m/\LDk m a/\q (.fz (e7 d (Aq D t a)))
theorem _'(e:Fun K Eo Eo GK f G)(T:Txt K mg D)(I:OkI P w K mg base ab 5 D.Sure_init oG (dj K (Y8 D)))(Q:OkI P w K mg base ab 5 D.Mixed_init gW (dj K (Ga D)))(H:OkI P w K mg base ab 6 D.Toss_init oE (dj K (Fc D)))(X:OkI P w K mg base ab 6 D.Even_init m7 (dj K (E' D))):bW P w K mg base ab 8 f G Ak (am K (Wt D)):=by
 refine e.okT Wi (λA _=>bF (Q5 we (fK (n:=3) (bT (cB (n:=99) 4) (bT (cB (n:=99) 5) (bT (cB (n:=99) 6) dN)))))
  (bF (qK (bG GK) Em Em ["_law_room","_law_chance"] (cI (qv 6)) (fK (n:=2) (bT (d_ (i:=0)) (bT (d_ (i:=1)) dN))) cC (dh (bx (bJ wE wn) (bx we bC))) (mC (i:=3) Wi.nd rfl (Or.inl rfl)))
  (bF (cG (cj (yA A.units) wE bA)
  (bH (bN (Gh T.agk I T.ahz (bx wn (bx (qv 5) (bx (bJ (bJ wP bA) bA) bC))))))
  bQ)
  (bF (cG (cj (yA A.units) wE bA)
  (bH (bN (Gh T.aeT H T.ah7 (bx wn (bx (qv 5) (bx (bJ (bJ wP bA) bA) (bx (bJ (bJ wP bA) bA) (bx (bJ (bJ wP bA) bA) bC))))))))
  bQ)
  (bF (cG (cj (yA A.units) wE bA)
  (bH (bN (Gh T.afP X T.ahY (bx wn (bx (qv 5) (bx (c7 (bG GK) Em Em ["_law_room","_law_chance"] (cI wP) (fK (n:=2) (bT (d_ (i:=0)) (bT (d_ (i:=1)) dN))) cC wn) bC))))))
  bQ)
  (bH (bN (Gh T.aeo Q T.Tn (bx wn (bx (qv 5) (bx wP bC))))))))))) ?_
 rintro _ R ⟨t,c,d,m,rfl,v,y,hd,q⟩;have s:=hd.few;have S:∀p∈c.prs,ca (d.map L2.T.str) (p.1:Nat)=some (.str (bc d p).1):=λp j=>by
  have C:p.1<d.length:=by rw[y.len];exact hd.lt p j
  exact jw (by rw[aj C];show _=some (d.getD p.1 ⟨#[]⟩);rw[au,aj C];rfl)
 have U:(c.prs.map (bc d)).map cg=c.prs.map λp=>cg (bc d p):=by rw[WJ];rfl
 have o:=hd.prsOk y;have z:=_I y.nd (F:=c.prs) λp j=>by rw[y.len];exact hd.lt p j
 refine⟨rfl,by rw[ak];exact aL s wf,comp_map dB (λp=>cg (bc d p)) c.prs (λp j N M B=>⟨rfl,_,S p j,B⟩) ?_⟩;rw[<- U];obtain⟨k,g,l⟩:=c;have Y:k<4:=hd.sort;have O:=hd.s0;have L:=hd.s1;have J:=hd.s2;dsimp only at *;obtain rfl|rfl|rfl|rfl:k=0\/k=1\/k=2\/k=3:=by lia
 .obtain⟨a,rfl⟩:=O rfl;have W:zH [(a,1)]=[(a,1)]:=by simp[zH,Fw,GZ]
  have h:R (.fz (gz D.Sure t g ([(a,1)].map (bc d)))):=by rw[<- W];exact q
  exact⟨_,rfl,t,_,g,rfl,rfl,acR D,rfl,v,(o.ok (bc d (a,1)) (YR.mpr rfl)).1,h⟩
 .obtain⟨a,b,x,rfl⟩:=L rfl;have h:R (.fz (gz D.Toss t g (GF ([(a,x),(b,1-x)].map (bc d))))):=by rw[z];exact q
  exact⟨_,rfl,_,rfl,_,rfl,t,_,_,g,x,rfl,rfl,ace D,rfl,v,(o.ok (bc d (a,x)) (aO ..)).2,o,h⟩
 .obtain⟨u,rfl⟩:=J rfl;have h:R (.fz (gz D.Even t g (GF ((u.map λr=>(r,mkRat 1 u.length)).map (bc d))))):=by rw[z];exact q
  have E:even (((u.map λr=>(r,mkRat 1 u.length)).map (bc d)).map (·.1))=(u.map λr=>(r,mkRat 1 u.length)).map (bc d):=by
   have V:(((u.map λr=>(r,mkRat 1 u.length)).map (bc d)).map (·.1)).length=u.length:=by simp
   unfold even;rw[V];simp[Function.comp_def]
  refine⟨by rw[ak,ak];exact aL s wf,comp_map cg (λp=>.str p.1) ((u.map λr=>(r,mkRat 1 u.length)).map (bc d)) (λp j N M B=>⟨rfl,B⟩) ⟨t,g,((u.map λr=>(r,mkRat 1 u.length)).map (bc d)).map (·.1),rfl,rfl,acv D,?_,v,by rw[E];exact o,?_⟩⟩
  .rw[show(((u.map λr=>(r,mkRat 1 u.length)).map (bc d)).map (·.1)).map L2.T.str=((u.map λr=>(r,mkRat 1 u.length)).map (bc d)).map λp=>L2.T.str p.1 from WJ]
   rfl
  .rw[E];exact h
 .have h:R (.fz (gz D.Mixed t g (GF (l.map (bc d))))):=by rw[z];exact q
  exact⟨t,g,l.map (bc d),rfl,rfl,aaJ D,rfl,v,o,h⟩
structure nY(t:xk)(l:zD):Prop where
 len:l.length=t.length
 at_:∀(k:Nat)ds os,t[k]?=some ds->l[k]?=some os->∃tl:Φ,tl.length=ds.length/\os=(tl.zip ds).map λp=>Tv p.1 p.2
theorem V9{Q c:Type} : ∀{xs:List Q}{A:List c}{x:Q}(y:c),xs[A.length]?=some x->xs.zip (A++[y])=xs.zip A++[(x,y)]
 |[],A,_,_,e=>by cases e
 |a::xs,[],x,y,e=>by cases e;simp
 |a::xs,b::A,x,y,e=>by
  rw[cons_append,zip_cons_cons,zip_cons_cons,V9 (xs:=xs) (A:=A) y (by simpa using e)]
  rfl
theorem Ao{Q b:Type}(f:Q->T)(g:b->T):∀(a:List Q)(A:List b),xX (a.map f) (A.map g)=(a.zip A).map λp=>.tup [f p.1,g p.2]
 |[],A=>by cases A<;>rfl
 |_::_,[]=>rfl
 |x::a,y::A=>by
  rw[zip_cons_cons,map_cons,map_cons,map_cons,<- Ao f g a A]
  rfl
def ZS(D:a'):ST:=λa q=>∃(c:Int)(s:Rat)(m X:Nat)(t:xk),a=[.int c,aa s,lv t]/\Shr s/\DSk m X t/\m<=26/\X<=26/\∀d l,ik d m->yc d l->nY t l->q (.fz (bu D s d l))
def _b(F:Fun K JV JV Ue f G)(T:Txt K mg D)(J0:ag P w K mg base 2 Ew yV VJ)(R4:ag P w K mg base 8 Eo Ak (Wt D))(zR:OkI P w K mg base ab 4 D.Hall_init oH (dj K (Zv D))):bW P w K mg base ab 9 f G GR (am K (ZS D)):=by
 refine F.okT WB (λ_ _=>bF (bO 3 (bI J0 (bx wn (bx (bY eG T.gk VY (bx wa bC)) bC))))
  (bF (lA 4 (eF bC))
  (bF (eV (fM T.gF (bx (bY eG T.gk VY (bx wa bC)) bC)) (cB (n:=99) 5)
  (bF (bO 6 (bI J0 (bx (bL dg wn (qv 5)) (bx (bY eG T.gk VY (bx (bJ wa (qv 5)) bC)) bC))))
  (bH (uG 4 (dh (bx (bJ wP (qv 5)) (bx (c7 (bG Ue) Yv Yv ["_law_title","_law_door_here"] (Ah T.I9 (bx (qv 6) (bx (bJ wa (qv 5)) bC))) (fK (n:=2) (bT (d_ (i:=0)) (bT (d_ (i:=1)) dN))) cC (bI R4 (bx wn (bx we (bx (qv 5) bC))))) bC)))))))
  (bH (Tc 4 (bN (Gh T.afC zR T.ah9 (bx we (bx wE bC))))))))) ?_
 rintro _ R ⟨c,s,m,X,t,rfl,r,hd,m1,S,q⟩;have dl:(t.map λb=>L2.T.lst (b.map dc)).length=m:=by rw[ak,hd.len]
 refine⟨c,m,by rw[<- dl];rfl,m1,λd B=>?_⟩;have Q:=B.len;have e0:DW d []=[]:=by simp[DW]
 refine⟨⟨by rw[dl];lia,by rw[dl];lia⟩,Aw (λk o=>∃(e:xA)(O L:OT),o=[.fz (.int c),.fz (aa s),.fz (lv t),.fz (.lst (d.map L2.T.str)),.l1 (DW d e),O,L]/\e.length=k/\∀(i:Nat)b x,t[i]?=some b->e[i]?=some x->∃a,ik a b.length/\x=(a.zip b).map λp=>Aq D p.1 p.2) ⟨[],.und,.und,by rw[e0];rfl,rfl,λi b x _ z=>by cases z⟩ ?_ ?_⟩
 .rintro k _ hk ⟨e,O,L,rfl,h,I⟩;have hk:k<m:=by rw[dl]at hk;lia
  have v:k<t.length:=by rwa[hd.len]
  have ek:=aj v;have u:=aU v;have fk:=hd.few _ u;have C:ca (t.map λb=>L2.T.lst (b.map dc)) (k:Nat)=some (.lst (t[k].map dc)):=jw ek;have nk:d[k]?=some (d.getD k ⟨#[]⟩):=by rw[au,aj wp];rfl
  refine⟨_,C,c+k,t[k].length,by rw[<- ak (as:=t[k]) (f:=dc)];rfl,by exact aL fk S,λa l=>?_⟩;refine⟨_,jw nk,_,C,?_⟩;have zl:(a.zip t[k]).length<=26:=by rw[VZ];lia
  show(xX (a.map L2.T.str) (t[k].map dc)).length<=sizeLine/\iI _ _ _ _ (xX (a.map L2.T.str) (t[k].map dc)) _;rw[Ao];refine⟨by rw[ak];exact aL zl wf,comp_map (λp=>.tup [.str p.1,dc p.2]) (λp=>e7 d (Aq D p.1 p.2)) (a.zip t[k]) (λp H N M hN=>⟨rfl,p.1,p.2,d,m,rfl,l.wd _ (VX H).1,B,hd.ok _ u _ (VX H).2,hN⟩) ⟨?_,e++[(a.zip t[k]).map λp=>Aq D p.1 p.2],.fz (.int (k:Nat)),.fz (.lst (a.map L2.T.str)),?_,by rw[aA,h];rfl,λi b x E g=>?_⟩⟩
  .rw[ak,VZ];exact aR (show _<1000 by lia) wf
  .rw[show DW d (e++[(a.zip t[k]).map λp=>Aq D p.1 p.2])=DW d e++[.tup [.str (d.getD k ⟨#[]⟩),.lst ((a.zip t[k]).map λp=>e7 d (Aq D p.1 p.2))]]by
    unfold DW;rw[V9 (x:=d.getD k ⟨#[]⟩) _ (by rwa[h]),bf,map_singleton]
    congr 2
    show gM (_,((a.zip t[k]).map λp=>Aq D p.1 p.2).map (e7 d))=_;rw[WJ]
    rfl]
   rfl
  .by_cases J:i<e.length
   .rw[aF J]at g;exact I i b x E g
   .have U:=(ao.mp g).1;rw[aA,length_singleton]at U;have:i=k:=by lia
    subst this;rw[aD (WG h),show i-e.length=0 by lia]at g;cases g;rw[ek]at E;cases E;exact⟨a,l,rfl⟩
 .rintro _ ⟨e,O,L,rfl,h,I⟩;have h:e.length=m:=by rwa[h]
  have all:∀x∈e,∃b∈t,∃a,ik a b.length/\x=(a.zip b).map λp=>Aq D p.1 p.2:=λx A=>by
   obtain⟨i,J⟩:=aV A;have U:=(ao.mp J).1;have ld:i<t.length:=by rw[hd.len];exact aR U (WG h)
   exact⟨_,aU ld,I i _ x (aj ld) J⟩
  have Z:DJ D d e:=by
   refine⟨by rw[h,Q],by lia,B.wd,B.nd,λx A=>?_⟩;obtain⟨b,fg,a,l,rfl⟩:=all x A;have G:=hd.few b fg;have i6:=l.len;refine⟨by rw[ak,VZ];lia,λy V=>?_,λy V=>?_,?_⟩
   .obtain⟨p,_,rfl⟩:=YV.mp V;exact acs D _
   .obtain⟨p,H,rfl⟩:=YV.mp V;have v:=hd.ok b fg p.2 (VX H).2;obtain⟨qq,q0,q1,hq⟩:=v.all;have j:=J2 q0 hq;have:=j.few;have:=v.few;exact⟨by show(zH p.2.prs).length<=1000;lia,λw hw=>by rw[Q];exact j.lt w hw⟩
   .rw[WJ];show((a.zip b).map λp=>p.1).Nodup;rw[List.map_fst_zip (WG i6)];exact l.nd
  have bs:Bq s:=⟨gO (by
   have h0:=Rat.num_nonneg.mpr r.lo;have W:=(lt_iff s 1).mp r.hi;have W:s.num*((1:Rat).den:Int)<(1:Rat).num*(s.den:Int):=W;have:=r.den;simp at W;lia),gO (by have:=r.den;lia)⟩
  refine⟨s,d,e,rfl,rfl,rfl,rfl,r.lo,r.hi,bs,Z,q d (fo e) B ⟨?_,by lia,λos hU=>?_⟩ ⟨?_,λk b os E g=>?_⟩⟩
  .rw[ak,h,Q]
  .obtain⟨x,A,rfl⟩:=YV.mp hU;rw[ak];exact(Z.mds x A).few
  .rw[ak,h,hd.len]
  .rw[aq]at g;cases Y:e[k]? with
   |none=>rw[Y]at g;cases g
   |some x =>
    rw[Y]at g;cases g;obtain⟨a,l,rfl⟩:=I k b x E Y;exact⟨a,l.len,WJ⟩
structure kr(t:xk)(C:zS):Prop where
 len:C.length=t.length
 ok:∀(k:Nat)(d:xC)(ds:List LD),C[k]?=some d->t[k]?=some ds->Px d ds.length=true
open Rw (sg iu gq bZ iU jt Big)
def Rz(n d:Nat)(r:Rat):Prop:=r.num.natAbs<=10^n/\r.den<=10^d
def T5{d:Nat}{a:Int}(c:0<b)(f:a.natAbs<=10^n)(e:b.toNat<=10^d):Rz n d (divInt a b):=by
 obtain⟨x,y⟩:=div_pos (a:=a) c;exact⟨aL y f,aL x e⟩
def Rz.mul{d c h:Nat}{b:Rat}(g:Rz n d a)(f:Rz c h b):Rz (n+c) (d+h) (a*b):=by
 have e:a*b=divInt (a.num*b.num) (a.den*b.den):=by rw[<- kh,rd,rd]
 have p:(0:Int)<(a.den:Int)*b.den:=XZ (by have:=a.den_pos;lia) (by have:=b.den_pos;lia);rw[e];refine T5 p ?_ ?_
 .rw[VW,UY];exact W1 g.1 f.1
 .rw[<- Ts,T2,UY];exact W1 g.2 f.2
def Rz.add{d h g:Nat}{b:Rat}(f:Rz n d a)(c:Rz h g b)(j:n+g<=k)(i:h+d<=k):Rz (k+1) (d+g) (a+b):=by
 have e:a+b=divInt (a.num*b.den+b.num*a.den) (a.den*b.den):=by rw[<- ke _ _ (lC a) (lC b),rd,rd]
 have p:(0:Int)<(a.den:Int)*b.den:=XZ (by have:=a.den_pos;lia) (by have:=b.den_pos;lia);rw[e];refine T5 p ?_ ?_
 .have x:(a.num*b.den).natAbs<=10^k:=by
   rw[VW,X0];exact aL (W1 f.1 c.2) (by rw[<- UY];exact XG wf j)
  have y:(b.num*a.den).natAbs<=10^k:=by
   rw[VW,X0];exact aL (W1 c.1 f.2) (by rw[<- UY];exact XG wf i)
  have z:=Int.natAbs_add_le (a.num*b.den) (b.num*a.den);rw[pow_succ];lia
 .rw[<- Ts,T2,UY];exact W1 f.2 c.2
def uh{i:Int}(h:i.natAbs<=10^n)(a:n<=2400):Bd i:=Y3 (aL h (XG wf a)) (by decide +kernel)
def Rz.bq{d:Nat}(h:Rz n d r)(a:n<=2400)(hd:d<=2400):Bq r:=⟨uh h.1 a,uh (by rw[X0];exact h.2) hd⟩
def Rz.dd{d e c:Nat}{b:Rat}(g:Rz n d a)(f:Rz e c b)(h:d+c<=2400):Bd ((a.den:Int)*b.den):=uh (n:=d+c) (by
 rw[VW,X0,X0,UY];exact W1 g.2 f.2) h
def Rz.mono{d b c:Nat}(h:Rz n d a)(f:n<=b)(e:d<=c):Rz b c a:=⟨aL h.1 (XG wf f),aL h.2 (XG wf e)⟩
def Hg{A:Nat}(e:r<=(A:Rat))(d : -(A:Rat)<=r):r.num.natAbs<=A*r.den:=by
 have a:=(le_iff r (A:Rat)).mp e;have b:=(le_iff (-(A:Rat)) r).mp d;have a:r.num*((1:Nat):Int)<=(A:Int)*(r.den:Int):=a;have b : -(A:Int)*(r.den:Int)<=r.num*((1:Nat):Int):=b;have c:((A*r.den:Nat):Int)=(A:Int)*r.den:=Ts ..;rw[Int.neg_mul]at b;omega
structure OfB(m W U S:Nat)(o:bM):Prop where
 pn:o.pay.num.natAbs<=W
 pd:o.pay.den<=U
 cq:∃q:Nat,0<q/\q<=S/\∀w∈o.ways,w.2.den ∣ q
 nd:(o.ways.map (·.1)).Nodup
 few:o.ways.length<=1000
 lt:∀w∈o.ways,w.1<m
 nn:∀w∈o.ways,0<=w.2
 one:Io o.ways<=1
theorem Ej:∀j:zI,Io j=dw j λ_=>1
 |[]=>rfl
 |w::j=>by rw[Br,cZ,Ej j,Rat.mul_one]
def OfB.le1{o:bM}(h:OfB m W U S o){w:Nat×Rat}(a:w∈o.ways):w.2<=1:=by
 have:=Bs h.nn a;rw[<- Ej]at this;exact Tu this h.one
def Zn{t:xk}{l:zD}(hd:DSk m X t)(c:nY t l):∀n∈l,∀o∈n,OfB m (10^30) 1000 4000 o:=λos i o f=>by
 obtain⟨k,d⟩:=aV i;have a:k<t.length:=by rw[<- c.len];exact(ao.mp d).1
 obtain⟨r,_,rfl⟩:=c.at_ k _ os (aj a) d;obtain⟨p,h,rfl⟩:=YV.mp f;have a:=hd.ok _ (aU a) p.2 (VX h).2;obtain⟨q,b,e,g⟩:=a.all;have j:=J2 b g;have u:=j.few;have s:=a.few;exact⟨a.pay.num,a.pay.den,⟨q,b,e,j.dn⟩,j.nd,by show(zH p.2.prs).length<=1000;lia,j.lt,j.nn,by
  show Io (zH p.2.prs)<=1;rw[Ej,j.sum,vI,a.one];exact VQ⟩
def Wh{t:xk}{l:zD}(hd:DSk m X t)(u:∀e∈t,∀d∈e,d.pay.den=1/\d.pay.num.natAbs<=9/\∀p∈d.prs,p.2=1)(c:nY t l):∀e∈l,∀o∈e,OfB m 9 1 1 o:=λos h o f=>by
 have B:=Zn hd c os h o f;obtain⟨k,i⟩:=aV h;have a:k<t.length:=by rw[<- c.len];exact(ao.mp i).1
 obtain⟨v,_,rfl⟩:=c.at_ k _ os (aj a) i;obtain⟨p,g,rfl⟩:=YV.mp f;obtain⟨s,r,n⟩:=u _ (aU a) p.2 (VX g).2;have a:=hd.ok _ (aU a) p.2 (VX g).2;have j:=J2 (q:=1) VU (m:=m) (F:=p.2.prs) λx b=>⟨a.lt x b,a.nn x b,by rw[n x b];exact Qr 1⟩;exact⟨r,by show p.2.pay.den<=1;exact WG s,⟨1,VU,aG _,j.dn⟩,B.nd,B.few,B.lt,B.nn,B.one⟩
open Rw (sg iu gq bZ iU jt Big)
def P6(d:∀w∈j,0<=w.2)(c:Nat):0<=uI j c/\uI j c<=Io j:=by
 induction j with
 |nil=>exact⟨VQ,VQ⟩
 |cons w j e =>
  have:=d w (aO ..);obtain⟨a,b⟩:=e λx f=>d x (aJ _ f);rw[Br];show 0<=(if w.1=c then w.2 else 0)+uI j c/\(if w.1=c then w.2 else 0)+uI j c<=_;split<;>grind
def abX{q:Nat}(d:0<q)(h:∀w∈j,w.2.den ∣ q)(a:Nat):(uI j a).den ∣ q:=by
 induction j with
 |nil=>exact U1 _
 |cons w j b =>
  refine yL d ?_ (b λx c=>h x (aJ _ c));split
  .exact h w (aO ..)
  .exact U1 _
abbrev qO(c:xB):Nat:=b_ 1 ((kY c).map (·.2))
def CoB(m W U S:Nat)(c:xB):Prop:=∀o,c=some o->OfB m W U S o
def CoB.sh{c:xB}(h:CoB m W U S c):ck s m (kY c):=by
 cases c with
 |none=>exact⟨λ_ z=>(nomatch z),λ_ z=>(nomatch z),by show(0:Rat)<=1;decide⟩
 |some o=>have b:=h o rfl;exact⟨b.lt,b.nn,b.one⟩
def EW(c:xB):0<qO c:=d9 _ VU
def P2{c:xB}{w:Nat×Rat}(a:w∈kY c):w.2.den ∣ qO c:=(jN _).2 _ (YV.mpr ⟨w,a,rfl⟩)
def CoB.q{m W U S:Nat}{c:xB}(h:CoB m W U S c)(f:1<=S):qO c<=S:=by
 cases c with
 |none=>exact f
 |some o =>
  obtain⟨q,b,a,e⟩:=(h o rfl).cq;refine aL (UX b (jE _ (U1 _) λr d=>?_)) a;obtain⟨w,hw,rfl⟩:=YV.mp d;exact e w hw
def CoB.pd{m W U S:Nat}{c:xB}(h:CoB m W U S c)(a:1<=U):(pU c).den<=U:=by
 cases c with
 |none=>exact a
 |some o=>exact(h o rfl).pd
def CoB.pn{m W U S:Nat}{c:xB}(h:CoB m W U S c):(pU c).num.natAbs<=W:=by
 cases c with
 |none=>exact aZ _
 |some o=>exact(h o rfl).pn
theorem uU:((1:Nat):Rat)=1:=rfl
def On{c:xp}{j:Nat}(g:0<=s)(n:s<1)(h:CoB m W U S (c.getD i none)):(iC s c i j).den ∣ s.den*qO (c.getD i none)/\(iC s c i j).num.natAbs<=1*(iC s c i j).den:=by
 have e:=CoB.sh (s:=s) h;obtain⟨a,b⟩:=P6 e.nn j;have l:=Tu b e.one;have o:s*uI (kY (c.getD i none)) j<=1:=by
  have:=UH l g
  grind
 have p:0<=s*uI (kY (c.getD i none)) j:=Q3 g a;have f:=s.den_pos;have d:=EW (c.getD i none);refine⟨?_,Hg ?_ ?_⟩
 .unfold iC;rw[sub_eq_add_neg];refine yL (UP f d) ?_ ?_
  .split<;>exact U1 _
  .rw[WO];exact di f d (Qr _) (abX d (λw k=>P2 k) j)
 .unfold iC;rw[uU];split<;>grind
 .unfold iC;rw[uU];split<;>grind
def Fh{cs:xp}(e:Shr s)(l:cs.length<=100)(h:∀c∈cs,CoB cs.length W U S c)(o:1<=U)(n:1<=S)(k:N=(W+1)*(100*S*U))(v:(2*cs.length*N)^cs.length<=NN)(u:N<=NN):Sys (Fx (Dj s cs) (cs.map pU)) N:=by
 have g:∀i,i<cs.length->CoB cs.length W U S (cs.getD i none):=λi d=>h _ (by rw[au,aj d];exact aU d);have t:=s.den_pos;have all:∀i,i<cs.length->∀c∈((range cs.length).map λj=>iC s cs i j)++[pU (cs.getD i none)],c.den ∣ s.den*qO (cs.getD i none)*(pU (cs.getD i none)).den/\c.num.natAbs<=(W+1)*c.den:=λi d c A=>by
  rcases Y1.mp A with z|z
  .obtain⟨j,_,rfl⟩:=YV.mp z;obtain⟨a,b⟩:=On (j:=j) e.lo e.hi (g i d);exact⟨TR a (Nat.dvd_mul_right _ _),aL b (ki _ (Q4 _ _))⟩
  .rw[YR.mp z];refine⟨dvd_mul_left _ _,?_⟩;have:=(g i d).pn;have:=(pU (cs.getD i none)).den_pos;exact aL (show _<=(W+1)*1 by lia) (TH _ this)
 have m:∀i,i<cs.length->0<s.den*qO (cs.getD i none)*(pU (cs.getD i none)).den/\s.den*qO (cs.getD i none)*(pU (cs.getD i none)).den<=100*S*U:=λi d =>
  ⟨UP (UP t (EW _)) (Rat.den_pos _),W1 (W1 e.den ((g i d).q n)) ((g i d).pd o)⟩
 refine⟨λr f=>?_,by rw[vD];exact l,λr f=>?_,λr f c y=>?_,?_,by rw[vD];exact v,u,?_⟩
 .obtain⟨i,d,rfl⟩:=JW f;rw[vD,aA,ak,WH];rfl
 .obtain⟨i,d,rfl⟩:=JW f;obtain⟨a,b⟩:=m i d;exact(Y' (Q4 _ _) a (all i d)).le (by rw[k];exact TH _ b)
 .obtain⟨i,d,rfl⟩:=JW f;obtain⟨a,b⟩:=all i d c y;obtain⟨p,q⟩:=m i d;exact da (aL b (aL (TH _ (aL (UX p a) q)) (by rwa[<- k])))
 .rw[k];exact UP (TU _) (UP (UP wf (aR (X2 _) n)) (aR (X2 _) o))
 .rw[vD];exact λx B w=>WA e.lo e.hi (λi d=>(g i d).sh) x B w
def Gu(b:Shr s):Rz 2 2 s:=by
 have a:=Hg (r:=s) (A:=1) (Th b.hi) (by have:=b.lo;rw[uU];grind);have:=b.den;exact⟨aL a wp,this⟩
def p5{o:bM}(h:OfB m W U S o)(g:S<=10^4){w:Nat×Rat}(b:w∈o.ways):Rz 4 4 w.2:=by
 obtain⟨q,c,f,e⟩:=h.cq;have d:=UX c (e w b);have a:=Hg (r:=w.2) (A:=1) (h.le1 b) (by have:=h.nn w b;rw[uU];grind);exact⟨aL a wp,by lia⟩
def C8{l:zD}(f:∀g∈l,∀o∈g,OfB m W U S o):∀c∈cb l C,CoB m W U S c:=λc hc o b=>by
 obtain⟨p,h,rfl⟩:=YV.mp hc;cases e:p.1 with
 |none=>rw[e]at b;cases b
 |some d =>
  rw[e]at b;have b:(l.getD p.2 [])[d]?=some o:=b;by_cases a:p.2<l.length
  .rw[au,aj a]at b;exact f _ (aU a) o (aC b)
  .have:l[p.2]?=none:=aM (VS a);rw[au,this]at b;cases b
def NX{l:zD}(f:Shr s)(e:l.length<=100)(g:∀p∈l,∀o∈p,OfB l.length W U S o)(n:1<=U)(m:1<=S)(hc:S<=10^4)(k:N=(W+1)*(100*S*U))(r:(2*l.length*N)^l.length<=NN)(h:N<=NN)(i:cf l C):p_ s (cb l C) N:=by
 have a:=Hv i;have q:=C8 (C:=C) g;have sz:=Gu f;refine⟨sz.bq wf wf,λc j=>?_,Fh f (aL (WG a) e) (by rwa[a]) n m k (by rwa[a]) h⟩;rw[a];cases c with
 |none=>exact⟨.nil,aZ _,λ_ z=>(nomatch z),λ_ z=>(nomatch z)⟩
 |some o =>
  have b:=q _ j o rfl;refine⟨b.nd,b.few,b.lt,λw hw=>?_⟩;have d:=p5 b hc hw;exact⟨d.bq wf wf,sz.dd d wf,(sz.mul d).bq wf wf⟩
def Yn(u:xz)(n M:Nat)(d:0<M):(∀r∈u,r.den<=M)->b_ n u<=n*M^u.length:=by
 induction u generalizing n with
 |nil=>intro _;show n<=n*1;lia
 |cons r u b =>
  intro h;have a:Nat.lcm n r.den<=n*M:=aL (by unfold Nat.lcm;exact Q1 _ _) (TH _ (h r (aO ..)));refine aL (b (Nat.lcm n r.den) λx c=>h x (aJ _ c)) ?_;rw[length_cons,pow_succ,JU (M^u.length),<- Nat.mul_assoc];exact ki _ a
theorem E1{Q:Type}(g:Q->Int)(b:Nat):∀j:List Q,(∀w∈j,(g w).natAbs<=b)->(j.map g).sum.natAbs<=j.length*b
 |[],_=>by simp
 |w::j,h=>by
  have a:=h w (aO ..);have c:=E1 g b j λx d=>h x (aJ _ d);rw[map_cons,sum_cons,length_cons,add_mul,Nat.one_mul];have:=Int.natAbs_add_le (g w) (j.map g).sum;lia
def ED{t b:Nat}{o:bM}{a:xm}{B:Nat}(D:Shr s)(h:OfB m W U S o)(hc:S<=10^4)(H:W<=10^30)(G:U<=10^3)(u:a.length=m)(l:∀x∈a,x.natAbs<=10^t)(p:B<=10^b)(lt:t<=2000)(C:b<=2000):qk s o a B/\Bq (gZ s a B o)/\Bd (((gZ s a B o).den:Int)*(B:Nat)):=by
 obtain⟨q,y,v,F⟩:=h.cq;have z:b_ 1 (o.ways.map (·.2))<=10^4:=aL (UX y (jE _ (U1 _) λr E=>by
  obtain⟨w,hw,rfl⟩:=YV.mp E;exact F w hw)) (aL v hc)
 have A:=d9 (o.ways.map (·.2)) VU;have sz:=Gu D;have i:Rz 30 3 o.pay:=⟨aL h.pn H,aL h.pd G⟩;have I:Rz b 0 (B:Rat):=⟨p,aG 1⟩;have part:∀w∈o.ways,(w.2.num*((b_ 1 (o.ways.map (·.2))/w.2.den:Nat):Int)).natAbs<=10^8:=λw hw=>by
  rw[VW,X0];exact aL (W1 (p5 h hc hw).1 (aL (Q1 _ _) z)) wf
 have top:∀k,(a.getD k 0).natAbs<=10^t:=λk=>by
  rw[au];cases e:a[k]? with
  |none=>exact aZ _
  |some x=>exact l x (aC e)
 have g:Rz (t+11) 4 (JF o.ways a):=by
  rw[<- Ti A a o.ways λw hw=>(jN _).2 _ (YV.mpr ⟨w,hw,rfl⟩)];refine T5 wp ?_ (by rwa[T2]);refine aL (E1 _ (10^8*10^t) o.ways λw hw=>?_) ?_
  .rw[VW];exact W1 (part w hw) (top w.1)
  .refine aL (ki _ h.few) ?_;rw[show(1000:Nat)=10^3 from rfl,<- Nat.mul_assoc,<- UY,<- UY];exact XG wf wp
 have f:=i.mul I;have d:=sz.mul g;have j:=f.add d (k:=2100) wp wp;refine⟨⟨⟨h.few,λw hw=>by rw[u];exact h.lt w hw,λw hw=>((p5 h hc hw).bq wf wf).1,uh (n:=4) (by rwa[X0]) wf,λx c=>?_,λx c=>uh (l x c) (aL lt wf)⟩,i.bq wf wf,sz.bq wf wf,uh (n:=b) (by rwa[X0]) (aL C wf),g.bq wp wf,sz.dd g wf,f.bq wp wf,d.bq wp wf,f.dd d wf⟩,j.bq wf wf,uh (n:=9+b) (by rw[VW,X0,X0,UY];exact W1 j.2 p) wp⟩;unfold tops at c;rw[WJ]at c;obtain⟨w,hw,rfl⟩:=YV.mp c;exact uh (n:=8) (part w hw) wf
theorem D6{c:Nat}(i:1<=c):∀{l:zD},(∀g∈l,g.length<=c)->(uZ l).length<=c^l.length
 |[],_=>aG 1
 |g::l,h=>by
  have f:=D6 i (l:=l) λx j=>h x (aJ _ j);have b:∀(e:zS),((e.map λd=>(uZ l).map λC=>d::C).flatten).length=e.length*(uZ l).length:=λe=>by
   induction e with
   |nil=>simp
   |cons a e f=>rw[map_cons,flatten_cons,aA,ak,f,length_cons,add_mul,Nat.one_mul,Nat.add_comm]
  unfold uZ;rw[b,length_cons,pow_succ,JU];refine W1 f ?_;split
  .exact i
  .rw[ak,WH];exact h g (aO ..)
def D3{l:zD}{e:Nat}(g:Shr s)(c:l.length<=100)(i:∀f∈l,∀o∈f,OfB l.length W U S o)(J:1<=U)(I:1<=S)(w:S<=10^4)(G:W<=10^30)(F:U<=10^3)(H:N=(W+1)*(100*S*U))(j:(2*l.length*N)^l.length<=10^e)(v:e<=600)(B:N<=NN)(le:e+e*l.length<=2000)(h:(uZ l).length<sizeLine):fF s l N:=by
 have D:(2*l.length*N)^l.length<=NN:=aL j (XG wf v);refine⟨g.lo,g.hi,c,λf m o k=>let b:=i f m o k;⟨b.lt,b.nn,b.one⟩,λC K=>NX g c i J I w H D B K,λA y q=>?_,h⟩;have p:∀r∈A,r.num.natAbs<=10^e:=λr a=>aL (q r a).n j;have z:∀r∈A,r.den<=10^e:=λr a=>aL (q r a).d j;have u:b_ 1 A<=10^(e*l.length):=by
  have:=Yn A 1 (10^e) (pow_pos wf) z;rw[Nat.one_mul,y,<- Nat.pow_mul]at this;exact this
 refine⟨by lia,λr a=>uh (p r a) (aL v wf),uh (n:=e*l.length) (by rwa[X0]) wp,λf m o k=>ED (t:=e+e*l.length) (b:=e*l.length) g (i f m o k) w G F (by unfold tops;rwa[ak]) (λx E=>?_) u (by omega) wp⟩;obtain⟨r,a,rfl⟩:=YV.mp E;rw[VW,X0,UY];exact W1 (p r a) (aL (Q1 _ _) u)
def NY(h:m<=6):(2*m*((10^30+1)*(100*4000*1000)))^m<=10^246:=by
 obtain rfl|rfl|rfl|rfl|rfl|rfl|rfl:m=0\/m=1\/m=2\/m=3\/m=4\/m=5\/m=6:=by lia
 all_goals decide +kernel
def XA(h:m<=8):(2*m*((9+1)*(100*1*1)))^m<=10^40:=by
 obtain rfl|rfl|rfl|rfl|rfl|rfl|rfl|rfl|rfl:m=0\/m=1\/m=2\/m=3\/m=4\/m=5\/m=6\/m=7\/m=8:=by lia
 all_goals decide +kernel
def cu(m:Nat)(t:xk):Prop:=m<=6\/(m<=8/\∀a∈t,∀d∈a,d.pay.den=1/\d.pay.num.natAbs<=9/\∀p∈d.prs,p.2=1)
def _O{t:xk}{l:zD}(f:Shr s)(hd:DSk m 4 t)(i:cu m t)(c:nY t l):∃N,fF s l N:=by
 have b:l.length=m:=by rw[c.len,hd.len]
 have o:∀p∈l,p.length<=4:=λos n=>by
  obtain⟨k,g⟩:=aV n;have d:k<t.length:=by rw[<- c.len];exact(ao.mp g).1
  obtain⟨q,_,rfl⟩:=c.at_ k _ os (aj d) g;have:=hd.few _ (aU d);rw[ak,VZ];lia
 have C:=D6 (by decide:1<=4) o;rcases i with h|⟨h,j⟩
 .have a:4^l.length<=4^8:=XG wf wp;exact⟨_,D3 (e:=246) f wp (by rw[b];exact Zn hd c) wf wf wf wf wf rfl (NY (aL (WG b) h)) wf (by decide +kernel) (by have:246*l.length<=246*6:=TH _ (aL (WG b) h);lia) (Y3 (aL C a) wf)⟩
 .have a:4^l.length<=4^8:=XG wf (aL (WG b) h);exact⟨_,D3 (e:=40) f wp (by rw[b];exact Wh hd j c) wf wf wf wf wf rfl (XA (aL (WG b) h)) wf (by decide +kernel) (by have:40*l.length<=40*8:=TH _ (aL (WG b) h);lia) (Y3 (aL C a) wf)⟩
def wj:ST:=λa q=>∃u:xz,a=[.lst (u.map aa)]/\(∀x∈u,Bq x)/\(u=[]->q (.fz .non))/\∀m,m∈u->(∀x∈u,x<=m)->q (.fz (aa m))
def GJ(F:Fun K iG iG xO f G)(T:Txt K mg D)(k:ag P w K mg base 1 m9 lK rT):bW P w K mg base ab 2 f G iH (am K wj):=by
 refine F.okT Jc (λ_ _=>bF (bO 1 iD)
  (bF (eV (cI wn) (cB (n:=99) 2)
  (bH (cG (QW.qt (g8 (cj zB we iD) (eX (cN (bI k (bx we (bx wa bC)))))))
  (bH (bO 1 wa))
  bQ)))
  (bH (bN we)))) ?_
 rintro _ R ⟨u,rfl,h,i,q⟩;refine gK aa u (λd o=>(d=[]/\∃x,o=[.fz (.lst (u.map aa)),.fz .non,x])\/∃m x,o=[.fz (.lst (u.map aa)),.fz (aa m),x]/\m∈d/\∀x∈d,x<=m) (.inl ⟨rfl,_,rfl⟩) ?_ ?_
 .rintro d a r _ e (⟨rfl,x,rfl⟩|⟨m,x,rfl,c,g⟩)
  .exact .inr ⟨a,_,rfl,by simp,λx b=>by rw[show x=a by simpa using b];exact VQ⟩
  .have p:Bq a:=h a (e ▸ by simp);have l:Bq m:=h m (e ▸ U2 _ c);exact⟨m,a,rfl,l,p,c4 (λlt=>.inr ⟨a,_,rfl,by simp,λx b=>(Y1.mp b).elim (λz=>Tu (g x z) (Th lt)) λz=>by rw[YR.mp z];exact VQ⟩) λj=>.inr ⟨m,_,rfl,U2 _ c,λx b=>(Y1.mp b).elim (g x) λz=>by rw[YR.mp z];exact Rat.not_lt.mp j⟩⟩
 .rintro _ (⟨z,x,rfl⟩|⟨m,x,rfl,c,b⟩)
  .exact i z
  .exact q m c b
def WR:ST:=λa q=>∃u:xz,a=[.lst (u.map aa)]/\(∀x∈u,Bq x)/\(u=[]->q (.fz .non))/\∀m,m∈u->(∀x∈u,m<=x)->q (.fz (aa m))
def adH(F:Fun K Gb Gb RN f G)(T:Txt K mg D)(k:ag P w K mg base 1 m9 lK rT):bW P w K mg base ab 2 f G yx (am K WR):=by
 refine F.okT _U (λ_ _=>bF (bO 1 iD)
  (bF (eV (cI wn) (cB (n:=99) 2)
  (bH (cG (QW.qt (g8 (cj zB we iD) (eX (cN (bI k (bx wa (bx we bC)))))))
  (bH (bO 1 wa))
  bQ)))
  (bH (bN we)))) ?_
 rintro _ R ⟨u,rfl,h,i,q⟩;refine gK aa u (λd o=>(d=[]/\∃x,o=[.fz (.lst (u.map aa)),.fz .non,x])\/∃m x,o=[.fz (.lst (u.map aa)),.fz (aa m),x]/\m∈d/\∀x∈d,m<=x) (.inl ⟨rfl,_,rfl⟩) ?_ ?_
 .rintro d a r _ e (⟨rfl,x,rfl⟩|⟨m,x,rfl,c,g⟩)
  .exact .inr ⟨a,_,rfl,by simp,λx b=>by rw[show x=a by simpa using b];exact VQ⟩
  .have p:Bq a:=h a (e ▸ by simp);have l:Bq m:=h m (e ▸ U2 _ c);exact⟨a,m,rfl,p,l,c4 (λlt=>.inr ⟨a,_,rfl,by simp,λx b=>(Y1.mp b).elim (λz=>Tu (Th lt) (g x z)) λz=>by rw[YR.mp z];exact VQ⟩) λj=>.inr ⟨m,_,rfl,U2 _ c,λx b=>(Y1.mp b).elim (g x) λz=>by rw[YR.mp z];exact Rat.not_lt.mp j⟩⟩
 .rintro _ (⟨z,x,rfl⟩|⟨m,x,rfl,c,b⟩)
  .exact i z
  .exact q m c b
def CG:ST:=λa q=>∃m:Nat,a=[.int (m:Nat)]/\m<=40/\q (.fz .non)
def Nr(F:Fun K pB pB vH f G)(T:Txt K mg D)(a:ag P w K mg base 1 gD fL jR):bW P w K mg base ab 2 f G lQ (am K CG):=by
 refine F.okT NT (λ_ _=>bH (cG (QW.qt (g8 (cY (cN (bI a (bx wn bC)))) (eX (cY (Fj CN CN bA wn (MP T.aeD λ_=>.int _))))))
  (bH eZ)
  bQ)) ?_
 rintro _ R ⟨m,rfl,h,q⟩;refine⟨_,_,rfl,rfl,?_⟩;show sw (!decide ((m:Int)<=40)) _ _;rw[Zs (show(m:Int)<=40 by lia)];exact q
def F8:Option Rat->T
 |none=>.non
 |some a=>aa a
def LB(r:Option Rat)(B:Nat):Rat:=match r with|none=>0|some a=>a/(B:Rat)
def K8:ST:=λb q=>∃(r:Option Rat)(B:Nat),b=[F8 r,.int (B:Nat)]/\0<B/\Bd (B:Int)/\(∀a,r=some a->Bq a/\Bd ((a.den:Int)*(B:Nat)))/\q (.fz (aa (LB r B)))
def Lx(F:Fun K vZ vZ HD f G)(T:Txt K mg D)(b:ag P w K mg base 3 Bh wV J9):bW P w K mg base ab 4 f G sX (am K K8):=by
 refine F.okT XR (λ_ _=>bH (bN (Pb (cj zB wn iD) (lG T.iY T.gC) (bI b (bx wn (bx (dh (bx we (bx bA bC))) bC)))))) ?_;rintro _ R ⟨r,B,rfl,i,g,h,q⟩;cases r with
 |none=>exact q
 |some a =>
  obtain⟨e,d⟩:=h a rfl;have c:((B:Nat):Rat)≠0:=λz=>by
   have:=Rat.intCast_eq_zero_iff.mp (show(((B:Nat):Int):Rat)=0 from z);lia
  exact⟨a,(B:Rat),rfl,c,e,⟨g,hh.2⟩,d,q⟩
def Zo(a:List bM)(g:bM->Rat)(v:Rat):Prop:=(a=[]->v=0)/\(a≠[]->∃o∈a,v=g o)/\∀o∈a,g o<=v
structure gj(s:Rat)(l:zD)(A M:xz):Prop where
 len:M.length=l.length
 top:∀(k:Nat)ds,l[k]?=some ds->Zo ds (JD s λj=>A.getD j 0) (M.getD k 0)
def gY(D:a'):ST:=λa q=>∃(s:Rat)(d:Φ)(l:zD)(A:xz),a=[bu D s d l,.lst (A.map aa)]/\yc d l/\kv s l A/\∀M:xz,gj s l A M->q (.l1 (M.map aa))
def Nv(F:Fun K jq jq qY f G)(T:Txt K mg D)(gH:ag P w K mg base 2 pW oN uW)(gR:ag P w K mg base 4 jL iw (rK D))(fY:ag P w K mg base 2 iG iH wj)(Bf:ag P w K mg base 4 vZ sX K8)(cR:OkI P w K mg base ab 1 D.Hall_size fu (am K (j4 D)))(cJ:OkI P w K mg base ab 3 D.Hall_offers dY (am K (rF D))):bW P w K mg base ab 5 f G gQ (am K (gY D)):=by
 refine F.okT Cm (λ_ _=>bF (bO 2 (bI gH (bx we bC)))
  (bF (lA 3 (eF bC))
  (bF (eV (fM T.gF (bx (vg wn T.i_ T.nu cR (KS:=kO)) bC)) (cB (n:=99) 4)
  (bF (qK (bG qY) vY vY ["offer"] (cI (Bw wn T.i_ T.jB cJ (bx wE bC) (KS:=kO))) (d_ (i:=0)) cC (bI gR (bx we (bx wn (bx wP bC)))) (mC (i:=5) Cm.nd rfl (Or.inl rfl)))
  (bH (uG 3 (bI Bf (bx (bI fY (bx (qv 5) bC)) (bx (bJ wa bA) bC)))))))
  (bH (mJ 3))))) ?_
 rintro _ R ⟨s,d,l,A,rfl,h,t,q⟩;have few:=h.few;have Q:=h.len;have B0:=d9 A VU;have nz:((b_ 1 A:Nat):Rat)≠0:=λz=>by
  have:=Rat.intCast_eq_zero_iff.mp (show(((b_ 1 A:Nat):Int):Rat)=0 from z);lia
 have W:(0:Rat)<((b_ 1 A:Nat):Rat):=Rat.intCast_lt_intCast.mpr (show(0:Int)<(b_ 1 A:Nat)by lia);refine⟨A,rfl,t.few,t.num,t.lcm,⟨rfl,rfl⟩,s,d,l,rfl,⟨by lia,by lia⟩,Aw (λk o=>∃(M:xz)(x y:OT),o=[.fz (bu D s d l),.fz (.lst (A.map aa)),.fz (.tup [.lst ((tops (b_ 1 A) A).map L2.T.int),.int (b_ 1 A:Nat)]),.l1 (M.map aa),x,y]/\M.length=k/\∀(i:Nat)p,i<k->l[i]?=some p->Zo p (JD s λj=>A.getD j 0) (M.getD i 0)) ⟨[],_,_,rfl,rfl,λi _ z=>absurd z (WU _)⟩ ?_ ?_⟩
 .rintro k _ S ⟨M,x,y,rfl,r,I⟩;have S:k<d.length:=by simpa using S
  have J:=aj (show k<l.length by lia);have u:=aC J;have G:=h.fews _ u;have E:=t.look _ u;have O:(M.map aa).length<sizeLine:=by rw[ak];exact aR (show _<1001 by lia) wf
  have U:∀v:Rat,Zo l[k] (JD s λj=>A.getD j 0) v->∃(C:xz)(x y:OT),[OT.fz (bu D s d l),.fz (.lst (A.map aa)),.fz (.tup [.lst ((tops (b_ 1 A) A).map L2.T.int),.int (b_ 1 A:Nat)]),.l1 (M.map aa++[aa v]),.fz (.int (k:Nat)),.fz (.lst (l[k].map λo=>aa (gZ s (tops (b_ 1 A) A) (b_ 1 A) o)))]=[.fz (bu D s d l),.fz (.lst (A.map aa)),.fz (.tup [.lst ((tops (b_ 1 A) A).map L2.T.int),.int (b_ 1 A:Nat)]),.l1 (C.map aa),x,y]/\C.length=k+1/\∀(i:Nat)p,i<k+1->l[i]?=some p->Zo p (JD s λj=>A.getD j 0) (C.getD i 0):=λv hv=>by
   refine⟨M++[v],_,_,by rw[bf];rfl,by simp[r],λi p Z L=>?_⟩;by_cases c:i=k
   .subst c;rw[J]at L;cases L;rwa[au,aD (WG r),r,Nat.sub_self]
   .rw[au,aF wp,<- au];exact I i p (XX (UZ Z) c) L
  have V:∀o,gZ s (tops (b_ 1 A) A) (b_ 1 A) o/((b_ 1 A:Nat):Rat)=JD s (λj=>A.getD j 0) o:=λo=>by rw[qJ];grind
  refine⟨⟨rfl,rfl⟩,s,d,l,k,_,rfl,h,J,by rw[ak];exact aL G wf,comp_map cz (λo=>aa (gZ s (tops (b_ 1 A) A) (b_ 1 A) o)) l[k] (λo g N b hN=>⟨s,d,l,o,_,_,rfl,(E o g).1,hN⟩) ?_⟩;refine⟨l[k].map (gZ s (tops (b_ 1 A) A) (b_ 1 A)),by rw[WJ];rfl,λx H=>?_,λB=>?_,λm Y H=>?_⟩
  .obtain⟨o,g,rfl⟩:=YV.mp H;exact(E o g).2.1
  .have B:l[k]=[]:=List.map_eq_nil_iff.mp B;refine⟨none,b_ 1 A,rfl,B0,t.lcm,(λa z=>nomatch z),O,U 0 ⟨λ_=>rfl,λz=>absurd B z,λo g=>by rw[B]at g;cases g⟩⟩
  .obtain⟨o,g,rfl⟩:=YV.mp Y;refine⟨some (gZ s (tops (b_ 1 A) A) (b_ 1 A) o),b_ 1 A,rfl,B0,t.lcm,(λa z=>by cases z;exact(E o g).2),O,?_⟩;refine U _ ⟨(λz=>by rw[z]at g;cases g),λ_=>⟨o,g,V o⟩,λX cS=>?_⟩;have:=H _ (YV.mpr ⟨X,cS,rfl⟩);show _<=gZ s (tops (b_ 1 A) A) (b_ 1 A) o/((b_ 1 A:Nat):Rat);rw[V];rw[qJ,qJ]at this;exact Rat.le_of_mul_le_mul_right this W
 .rintro _ ⟨M,x,y,rfl,r,I⟩;have r:M.length=l.length:=by rw[Q,r];simp
  exact q M ⟨r,λk p e=>I k p (by have:=(ao.mp e).1;simp;exact aR this (WG Q)) e⟩
def qg:ST:=λa q=>∃m:Nat,a=[.int (m:Nat)]/\1<=m/\m<=40/\q (.fz .non)
def Jj(F:Fun K je je sZ f G)(T:Txt K mg D)(a:ag P w K mg base 1 gD fL jR):bW P w K mg base ab 2 f G gA (am K qg):=by
 refine F.okT Jr (λ_ _=>bH (cG (QW.qt (g8 (cY (cN (bI a (bx wn bC)))) (eX (cY (Fj CN CN bA wn (MP T.aeD λ_=>.int _))))))
  (bH eZ)
  bQ)) ?_
 rintro _ R ⟨m,rfl,b,h,q⟩;refine⟨_,_,rfl,rfl,?_⟩;show sw (decide ((1:Int)<=m)) _ _;rw[Zs (show(1:Int)<=m by lia)];show sw (!decide ((m:Int)<=40)) _ _;rw[Zs (show(m:Int)<=40 by lia)];exact q
def kZ(b a:xz):xz:=(a.zip b).map λp=>p.1-p.2
def WT:ST:=λe q=>∃(d c:xz),e=[.lst (d.map aa),.lst (c.map aa)]/\c.length<=1000/\(∀a∈d,Rz 1200 1200 a)/\(∀b∈c,Rz 1200 1200 b)/\q (.l1 ((kZ d c).map aa))
def adP(F:Fun K Gd Gd J5 f G)(T:Txt K mg D)(h:ag P w K mg base 3 pL nG u9):bW P w K mg base ab 4 f G yO (am K WT):=by
 refine F.okT ac3 (λ_ _=>bH (bN (c7 (bG J5) Q_ Q_ ["one","other"] (Ah T.I9 (bx we (bx wn bC))) (fK (n:=2) (bT (d_ (i:=0)) (bT (d_ (i:=1)) dN))) cC (bI h (bx wn (bx we bC)))))) ?_;rintro _ R ⟨g,e,rfl,a,k,j,q⟩;refine⟨?_,?_⟩
 .unfold xX;rw[ak,VZ,ak,ak];exact aL (aL (min_le_left ..) a) wf
 rw[zip_map];refine comp_map (λp:Rat×Rat=>.tup [aa p.1,aa p.2]) (λp=>aa (p.1-p.2)) _ (λp d N M l=>?_) ?_
 .have c:=j _ (VX d).1;have b:=k _ (VX d).2;exact⟨rfl,p.1,p.2,rfl,c.bq wf wf,b.bq wf wf,c.dd b wf,l⟩
 .have:(kZ g e).map aa=(e.zip g).map λp=>aa (p.1-p.2):=by unfold kZ;rw[WJ];rfl
  rw[this]at q;exact q
def Wr(a:Shr s):1-s≠0/\0<1-s/\Rz 3 2 (1-s)/\(1-s).num.natAbs<=100:=by
 have h:=a.hi;have p:0<1-s:=by grind
 have d:(1-s).den<=100:=by rw[Qm];exact a.den
 have n:=Hg (r:=1-s) (A:=1) (by have:=a.lo;rw[uU];grind) (by rw[uU];grind);exact⟨λz=>by rw[z]at p;exact absurd p wf,p,⟨by lia,by omega⟩,by lia⟩
def a8(s g:Rat):Rat:=s/(1-s)*g
theorem Z5(k:Shr s):Rz 4 4 (s/(1-s))/\(s/(1-s)).den ∣ s.den*(1-s).num.natAbs:=by
 obtain⟨j,p,z,n⟩:=Wr k;have e:s/(1-s)=divInt (s.num*(1-s).den) (s.den*(1-s).num):=by
  have l:s=((s.num:Int):Rat)/((s.den:Int):Rat):=by rw[<- UQ,rd]
  have g:1-s=(((1-s).num:Int):Rat)/(((1-s).den:Int):Rat):=by rw[<- UQ,rd]
  have u:((s.den:Int):Rat)≠0:=λz=>lC s (Rat.intCast_eq_zero_iff.mp z);have r:(((1-s).den:Int):Rat)≠0:=λz=>lC _ (Rat.intCast_eq_zero_iff.mp z);have q:(((1-s).num:Int):Rat)≠0:=λz=>j (by rw[g,z];grind);rw[UQ,XU,XU];generalize 1-s=t at *;generalize((s.num:Int):Rat)=a at *;generalize((s.den:Int):Rat)=b at *;generalize((t.num:Int):Rat)=c at *;generalize((t.den:Int):Rat)=d at *;rw[l,g]
  grind
 have f:0<(1-s).num:=by
  have l:=Rat.num_nonneg.mpr (Th p);have g:(1-s).num≠0:=λz=>j (Rat.num_eq_zero.mp z);lia
 have m:(0:Int)<s.den:=by have:=s.den_pos;lia
 have i:(0:Int)<s.den*(1-s).num:=XZ m f;have sz:=Gu k;rw[e];refine⟨T5 i ?_ ?_,?_⟩
 .rw[VW,X0];exact aL (W1 sz.1 z.2) wf
 .have:(s.den*(1-s).num:Int).toNat=s.den*(1-s).num.natAbs:=by
   have h:((1-s).num.natAbs:Int)=(1-s).num:=Int.natAbs_of_nonneg (XY f);rw[<- h,<- Ts,T2,h]
  rw[this];exact aL (W1 sz.2 n) wf
 .have:=JX (a:=s.num*(1-s).den) i;have o:(s.den*(1-s).num:Int).toNat=s.den*(1-s).num.natAbs:=by
   have h:((1-s).num.natAbs:Int)=(1-s).num:=Int.natAbs_of_nonneg (XY f);rw[<- h,<- Ts,T2,h]
  rwa[o]at this
def Mp:ST:=λa q=>∃(s g:Rat),a=[aa s,aa g]/\Shr s/\Rz 2300 2300 g/\q (.fz (aa (a8 s g)))
def Xw(F:Fun K vM vM G9 f G)(T:Txt K mg D)(i:ag P w K mg base 3 pL nG u9)(d:ag P w K mg base 3 Bh wV J9)(h:ag P w K mg base 3 vq tH Ef):bW P w K mg base ab 4 f G sG (am K Mp):=by
 refine F.okT Yp (λ_ _=>bH (bN (bI h (bx (bI d (bx wn (bx (bI i (bx (lG T.Ei T.w6) (bx wn bC))) bC))) (bx we bC))))) ?_;rintro _ R ⟨s,g,rfl,b,c,q⟩;obtain⟨e,p,z,n⟩:=Wr b;have sz:=Gu b;have a:Rz 0 0 (1:Rat):=⟨aG _,aG _⟩;refine⟨1,s,rfl,a.bq wf wf,sz.bq wf wf,a.dd sz wf,s,1-s,rfl,e,sz.bq wf wf,z.bq wf wf,?_,s/(1-s),g,rfl,(Z5 b).1.bq wf wf,c.bq wf wf,(Z5 b).1.dd c wf,q⟩;refine uh (n:=5) ?_ wf;rw[VW,X0];exact aL (W1 sz.2 n) wf
def jn:Expr:=match dZ ji with
 |[_,.Return (some (.Call _ [_,_,l] _ _)) _]=>l
 |_=>.Name "x" ⟨0,0,0,0⟩
def oa:Arguments:=match jn with|.Lambda a _ _ _=>a|_=>h_ ji
def oo:Expr:=match jn with|.Lambda _ b _ _=>b|_=>jn
def jl:Scope:=match jn with|.Lambda _ _ c _=>c|_=>bG ji
def eQ:Pos:=match jn with|.Lambda _ _ _ p=>p|_=>⟨0,0,0,0⟩
abbrev X6:Str:=(dJ++".<locals>.")++"<lambda>"
def Sr(m:∀base,ag P w K mg base 5 jq gQ (gY D)){a:Heap}{frees:Ζ}{f c i:Addr}{g l:Value}(j:a.get? f=some (kla_obj "<lambda>" X6 oa oo jl [("hall",i)] l c g))(hc:a.CodeRec (.ref c) X6)(b:Ci a jl [("hall",i)] frees):ij P w K mg a 6 f ["ahead"] (i4 K frees (gY D)):=by
 refine⟨_,_,Sn j hc rfl rfl rfl (by decide +kernel) rfl (λy n=>?_) b (λJ H Q E h=>h.1) (λA d s H v Q E o h=>?_),.all (λk e=>?_),j,rfl⟩
 .have:∀y∈jl.names,y.2=.free->y.1="hall":=by decide +kernel
  obtain rfl:y="hall":=this _ (PySem.mem_of_lookup n) rfl;exact⟨i,rfl⟩
 .obtain⟨_,h⟩:=h;cases b with
  |@cons _ _ p _ _ _ _ _ _ _ _ b =>
   cases b;refine⟨_,sH (m a) o.md (by rfl) (f9 (pv 1) (f9 (pv 0) zW)),?_⟩;exact⟨_,rfl,_,rfl,h⟩
 .match k,e with
  |[_],_=>rfl
structure RdL(s:Rat)(l:zD)(L:wv):Prop where
 first:L[0]?=some (replicate l.length 0)
 next:∀(k:Nat)A M,L[k]?=some A->L[k+1]?=some M->gj s l A M
def hA(s:Rat)(l:zD)(R:Nat):Prop:=∀L,RdL s l L->∀(k:Nat)A,k<R->L[k]?=some A->kv s l A
abbrev bp(A:xz):L2.T:=.lst (A.map aa)
def RdL.snoc{l:zD}(h:RdL s l L)(e:L.getLast?=some A)(g:gj s l A M):RdL s l (L++[M]):=by
 rw[kj]at e;have a:=(ao.mp e).1;refine⟨by rw[aF wp];exact h.first,λk m j d b=>?_⟩;by_cases c:k+1<L.length
 .rw[aF (UU (X2 _) c)]at d;rw[aF c]at b;exact h.next k m j d b
 .have f:=(ao.mp b).1;rw[aA,length_singleton]at f;have i:k=L.length-1:=by lia
  subst i;rw[aF a,e]at d;rw[aD (VS c),show L.length-1+1-L.length=0 by omega]at b;cases d;cases b;exact g
def Qg(s:Rat)(l:zD)(b:Addr):ST:=λa q=>∃R:Nat,a=[bp (replicate l.length 0),.int (R:Nat),.val (.ref b)]/\R<=40/\hA s l R/\∀L:wv,L.length=R+1->RdL s l L->q (.l1 (L.map bp))
def iL(K:Frag)(D:a')(frees:Ζ)(s:Rat)(d:Φ)(l:zD):L2.T->Hp->V->Prop:=λ_ F _=>bV K F frees [bu D s d l]
def Ij{g:Addr}{frees:Ζ}(F:Fun K oX oX qe f G)(T:Txt K mg D)(r:ij P w K mg base 6 g ["ahead"] (i4 K frees (gY D)))(s:Rat)(d:Φ)(l:zD)(h:yc d l):bW P w K mg base ab 7 f G j7 (gs K (iL K D frees s d l) 2 (Qg s l g)):=by
 have n:∀F u,iL K D frees s d l (.val (.ref g)) F u->bV K F frees [bu D s d l]:=λ_ _ h=>h;refine F.okG 2 (λ_ F V _ S h=>bV.same S h) Ht (λJ a y=>by obtain⟨_,e,_⟩:=y;exact e ▸ rfl) λU b i N H E x=>?_;have nd:=Ht.nd;refine⟨_,(bF (lA 3 (eF (bx wn bC)))
  (bF (E_ (cj CN (Nf 3 (bY eG T.gk VY (bx wP bC))) we)
  (bH (uG 3 (abW 2 n r x.md (bx (uK 3 (uL bA)) bC)))))
  (bH (mJ 3)))),?_⟩
 rintro _ t a B ⟨R,rfl,O,z,q⟩;cases B;refine⟨λm o=>∃L:wv,o=[.fz (bp (replicate l.length 0)),.fz (.int (R:Nat)),.gh (iL K D frees s d l (.val (.ref g))) (.val (.ref g)),.l1 (L.map bp)]/\RdL s l L/\0<L.length/\m+L.length=R+1,⟨R,[replicate l.length 0],rfl,⟨rfl,λk A M _ e=>by cases k<;>cases e⟩,VU,rfl⟩,?_⟩;rintro m _ ⟨L,rfl,j,I,Q⟩;refine⟨trivial,?_⟩;show sw (decide (((L.map bp).length:Int)<=(R:Nat))) _ _;rw[ak];refine c4 (λc=>?_) λc=>q L wp j;have C:=aj (show L.length-1<L.length by omega);have v:L.getLast?=some L[L.length-1]:=by rwa[kj]
 refine⟨λo=>∃M:xz,o=[.fz (bp (replicate l.length 0)),.fz (.int (R:Nat)),.gh (iL K D frees s d l (.val (.ref g))) (.val (.ref g)),.l1 ((L++[M]).map bp)]/\gj s l L[L.length-1] M,?_,?_⟩
 .rintro _ ⟨M,rfl,p⟩;exact⟨m-1,by omega,L++[M],rfl,j.snoc v p,by simp,by rw[aA,length_singleton];lia⟩
 .refine⟨rfl,_,BL v,s,d,l,_,rfl,h,z L j _ _ wp C,λM p=>⟨by rw[ak];exact aR (show _<1001 by lia) wf,M,?_,p⟩⟩;rw[bf]
  rfl
def fi(K:Frag)(D:a'):L2.T->Hp->V->Prop:=λt F u=>∃c,Dc D.T_best_rounds eQ X6 F (some c)/\Rep K (wo [D.T_best_rounds,c] F) u t
def R6{K:Frag}{D:a'} : FA (fi K D):=λt F d u S ⟨c,a,r⟩=>⟨c,⟨S _ _ a.1,S _ _ a.2⟩,r.same λb w e=>by
 obtain⟨n,e⟩:=w5 e;rw[z_ n];exact S _ _ e⟩
def NC{K:Frag}{F G:Hp}{a:Addr}{c:Ζ}(h:SqT K F a c)(e:∀b u,(∀t,u≠HO.tbl t)->(∀d,u≠HO.ext d)->F b=some u->G b=some u):SqT K G a c:=by
 rcases h with h|h
 .exact .inl (h.imp (e _ _ (λ_ z=>nomatch z) λ_ z=>nomatch z) λf=>by obtain⟨o,r⟩:=f;exact⟨o,e _ _ (λ_ z=>nomatch z) (λ_ z=>nomatch z) r⟩)
 .exact .inr h
theorem Y_{K:Frag}{F G:Hp}(e:∀b c,(∀t,c≠HO.tbl t)->(∀f,c≠HO.ext f)->F b=some c->G b=some c):∀{A:Ζ}{u:xz},bV K F A (u.map aa)->bV K G A (u.map aa)
 |_,[],.nil=>.nil
 |_,r::_,.cons x y=>by
  obtain⟨q,g,rfl,s,d⟩:=x.tupI;cases d with
  |cons a d=>cases d with
   |cons b d =>
    cases d;cases a;cases b;exact .cons (.tup (NC s e) (.cons (.int _) (.cons (.int _) .nil))) (Y_ e y)
def BZ(K:Frag)(D:a'):Sp:=λJ H Q _=>∃(u:V)(R:Nat)(s:Rat)(d:Φ)(l:zD)(a:Ξ),J=[u,.int (R:Nat)]/\Dc D.T_best_rounds eQ X6 H a/\Rep K (wo (D.T_best_rounds::a.toList) H) u (bu D s d l)/\yc d l/\R<=40/\hA s l R /\
 ∀(L:wv)H' c v,L.length=R+1->RdL s l L->z0 (wo (D.T_best_rounds::a.toList) H) (wo [D.T_best_rounds,c] H')->Dc D.T_best_rounds eQ X6 H' (some c)->(∀b,a=some b->c=b)->NR K (λ_=>False) H H' v (.l1 (L.map bp))->Q v H'
def IL(K:Frag)(D:a')(frees:Ζ)(b:Addr):Sp:=λJ H Q E=>∃a:Rat×Φ×{ l:zD // True },yc a.2.1 a.2.2.1/\gs K (iL K D frees a.1 a.2.1 a.2.2.1) 2 (Qg a.1 a.2.2.1 b) J H Q E
def YA{e:Addr}{d:Pos}{a:Str}{o:Addr->Value->Obj}{n:xE}{g:Ζ->Addr->Sp}{m:TA}{D:Ends}(h:m σ H λJ l=>∃(f c:Addr)(frees:Ζ),l f=some (VP f (o c))/\f≠c/\Dc e d a l (some c)/\(n.map λj=>σ[j]?)=frees.map (λv=>some (some v))/\g frees f J (wo [e,c,f] l) (λv i=>∀k,(∀b,b≠e->b≠c->k b=i b)->Dc e d a k (some c)->i e=none->i c=none->i f=none->D.rt v k) E0):vh (V0 e d a o n g m) D σ H:=h
def _L{t u:TS}{D:Ends}(h:t { D with nx:=u D } σ H):h5 t u D σ H:=h
def Ld{I:Addr}(F:Fun K dJ dJ ji f G)(hc:G.code=.ref I)(hC:codeHdIn K I D.T_best_rounds)(T:Txt K mg D)(hB:base.BuiltinsAt mg D.T_best_rounds)(nC:∀base,ag P w K mg base 5 jq gQ (gY D))(vC:ag P w K mg base 2 pB lQ CG)(cR:OkI P w K mg base ab 1 D.Hall_size fu (am K (j4 D))):bW P w K mg base ab 8 f G dI (BZ K D):=by
 obtain⟨fR,fdR,FR,bR,mR⟩:=T.Jx;refine F.okC hc Kz (λJ H Q E h=>?_) (λA outer s0 H J Q E hr h=>?_)
 .obtain⟨o,v,_,_,_,_,rfl,_⟩:=h
  rfl
 .obtain⟨u,R,s,d,l,j,rfl,la,ru,h,kf,rb,q⟩:=h;refine⟨_,(lY (vL (sH vC hr.md (by rfl) (f9 (pv 1) zW)))
   (ZD (Tz (YX (Pt:=D.T_best_rounds) (N:=eQ) (qual:=X6) (pm:=(mg "__name__").getD .none) (params:=oa) (body:=oo) (I:=jl) (cl:=[("hall",s0.zs+1)]) (js:=[0]) (spL:=λfrees=>i4 K frees (gY D)) (spR:=IL K D) (by rfl) mR FR.kp (.all bR) hr.md (λbi frees f V=>bW.ex λa=>bW.andL λh=>Ij FR T V a.1 a.2.1 a.2.2.1 h) (λbi frees f c ctv ho hc hs=>Sr nC ho hc hs) (by rfl) (λq hq=>by rw[YR.mp hq];exact⟨rfl,rfl,rfl⟩) wr (λq hq=>rfl)
    (f9 (bL cQ (eF (bx (lG T.iY T.gC) bC)) (vg wn T.i_ T.nu cR (KS:=kO))) (f9 (pv 1) (f9 (NI (params:=oa) (body:=oo) (I:=jl) (N:=eQ) hB rfl hC (by rfl)) zW))))))),?_⟩
  have few:=h.few;have hl:=h.len;have h0:=hl.symm ▸ few;refine _L ⟨_,rfl,[.int (R:Nat)],λx=>x=.fz .non,.cons (.int _) .nil,⟨R,rfl,kf,rfl⟩,?_⟩;rintro H1 _ _ rfl S1 _;dsimp only;refine YA ?_;refine⟨λ_=>[],[.fz (bu D s d l),.fz (.int (R:Nat))],λx=>x=.l1 ((replicate l.length (0:Rat)).map aa),SR.start (.cons ((ru.same E5).same S1) (.cons (.int _) .nil)) jf,?_,?_⟩
  .refine⟨⟨rfl,rfl⟩,s,d,l,rfl,⟨by lia,by lia,?_⟩,λz ez=>?_⟩
   .show 1*_<=_;exact aL (show _<=1000 by lia) wf
   .rw[ez,List.map_replicate,hl];show _=OT.l1 (replicate d.length (aa 0));rw[T2,List.flatten_replicate_singleton]
    rfl
  rintro Y _ _ rfl S3 n0;obtain⟨B0,nB0,l0,xs0,e0,rfl,el0,r0⟩:=n0;cases e0;have C:=S1.trans S3;have S:Dc D.T_best_rounds eQ X6 Y j:=by
   cases j with
   |none=>exact C _ _ la
   |some c=>exact⟨C _ _ la.1,C _ _ la.2⟩
  have Z:∃t,Y D.T_best_rounds=some (.tbl t):=by
   cases j with
   |none=>exact⟨_,S⟩
   |some c=>exact⟨_,S.1⟩
  refine⟨_,rfl,j,S,λi c X ff fc c1 c2 la4 hf eo=>⟨i,c,[u],hf,fc,la4,rfl,?_⟩⟩;have N:z0 (wo (D.T_best_rounds::j.toList) Y) (wo [D.T_best_rounds,c,i] X):=λb u e=>by
   obtain⟨O,y⟩:=w5 e;have m:b≠D.T_best_rounds:=λz=>O (by rw[z];exact aO);have k:b≠c:=λz=>by
    cases j with
    |none=>rw[z,c1 rfl]at y;cases y
    |some I=>exact O (by rw[z,c2 I rfl];simp)
   have p:b≠i:=λz=>by rw[z,ff]at y;cases y
   rw[z_ (by simp;exact⟨m,k,p⟩),eo b m k p];exact y
  have SS:z0 (wo (D.T_best_rounds::j.toList) H) (wo [D.T_best_rounds,c,i] X):=λb u e=>by
   obtain⟨O,y⟩:=w5 e;exact N b u (by rw[z_ O];exact C _ _ y)
  have n:∀b u,(∀t,u≠.tbl t)->(∀φ,u≠.ext φ)->Y b=some u->wo [D.T_best_rounds,c,i] X b=some u:=λb u nt nx e=>N b u ((z_ λz=>by
   rcases YU.mp z with z|z
   .obtain⟨t,ht⟩:=Z;rw[z,ht]at e;cases e;exact nt _ rfl
   .cases j with
    |none=>cases z
    |some I=>rw[YR.mp z,S.2]at e;cases e;exact nx _ rfl).trans e)
  have un:∀b u,wo [D.T_best_rounds,c,i] X b=none->b≠D.T_best_rounds->b≠c->b≠i->H b=some u->False:=λb u z m k p e=>by
   rw[z_ (by simp;exact⟨m,k,p⟩),eo b m k p,C _ _ e]at z;cases z
  refine⟨⟨s,d,l,trivial⟩,h,.ref i,.val (.ref i),[bp (replicate l.length 0),.int (R:Nat),.val (.ref i)],λx=>∃L:wv,x=.l1 (L.map bp)/\L.length=R+1/\RdL s l L,rfl,rfl,.cons (ru.same SS) .nil,.cons (.lst (n _ _ (λ_ z=>nomatch z) (λ_ z=>nomatch z) el0) (Y_ (λb u W U e=>n b u W U (cW e).2) r0)) (.cons (.int _) (.cons (.val _) .nil)),⟨R,rfl,kf,rb,λL g r=>⟨L,rfl,g,r⟩⟩,?_⟩;rintro H5 v _ ⟨L,rfl,g,rd⟩ S5 ⟨B,nB,sl⟩ H6 e6 la6 m k p;have M:z0 H5 (wo [D.T_best_rounds,c] H6):=λb u e=>by
   have W:b≠D.T_best_rounds:=λz=>by rw[z,m]at e;cases e
   have U:b≠c:=λz=>by rw[z,k]at e;cases e
   rw[z_ (by simp;exact⟨W,U⟩),e6 b W U];exact e
  have S6:=M.trans E5;refine q L H6 c v g rd (SS.trans (S5.trans M)) la6 c2 ⟨B,λa ha=>?_,sl.same (bU S6) S6⟩;have ne:=(sl.sole ha).ne;cases e:H a with
  |none=>rfl
  |some u=>exact(un a u (nB a ha) (λz=>ne (z ▸ m)) (λz=>ne (z ▸ k)) (λz=>ne (z ▸ p)) e).elim
abbrev pT(a b:Int):T:=.tup [.int a,.int b]
def df{a:Int}(c:0<b):divInt a b*(b:Rat)=(a:Rat):=by
 have:(b:Rat)≠0:=λz=>by have:=Rat.intCast_eq_zero_iff.mp z;lia
 rw[UQ]
 grind
def dH(a:0<b):(0:Rat)<(b:Rat):=Rat.intCast_lt_intCast.mpr a
def SC{a c d:Int}(e:0<b)(hd:0<d):divInt a b<divInt c d↔a*d<c*b:=by
 have j:=df (a:=a) e;have i:=df (a:=c) hd;have h:=dH e;have g:=dH hd;rw[<- Rat.intCast_lt_intCast,XU,XU,<- j,<- i];generalize divInt a b=x;generalize divInt c d=y;have f:(0:Rat)<(b:Rat)*(d:Rat):=Rat.mul_pos h g;rw[show x*(b:Rat)*(d:Rat)=x*((b:Rat)*(d:Rat))from Rat.mul_assoc ..,show y*(d:Rat)*(b:Rat)=y*((b:Rat)*(d:Rat))by grind];exact(Rat.mul_lt_mul_right f).symm
def div_eq{a c d:Int}(e:0<b)(hd:0<d):divInt a b=divInt c d↔a*d=c*b:=QQ (WP e) (WP hd)
abbrev VV:Nat:=10^32
structure YsB(A:xz):Prop where
 dn:∀y∈A,y.den<=10^580
 hi:∀y∈A,y<=(VV:Rat)
 lo:∀y∈A,-(VV:Rat)<=y
def YsB.num{A:xz}(h:YsB A){y:Rat}(a:y∈A):y.num.natAbs<=10^612:=by
 refine aL (Hg (h.hi y a) (h.lo y a)) ?_;rw[show 10^612=VV*10^580 by unfold VV;rw[<- UY]];exact TH _ (h.dn y a)
def YsB.z(h:YsB A){y:Rat}(a:y∈A):Rz 612 580 y:=⟨h.num a,h.dn y a⟩
def YsB.get{A:xz}(h:YsB A)(k:Nat):Rz 612 580 (A.getD k 0)/\A.getD k 0<=(VV:Rat)/\-(VV:Rat)<=A.getD k 0:=by
 rw[au];cases e:A[k]? with
 |none=>exact⟨⟨aZ _,pow_pos wf⟩,by show(0:Rat)<=_;decide +kernel,by show _<=(0:Rat);decide +kernel⟩
 |some y=>have m:=aC e;exact⟨h.z m,h.hi y m,h.lo y m⟩
def oR(s:Rat)(y:Nat->Rat)(d:LD):Rat:=d.pay+s*dw d.prs y
def Se{C:Rat}(h:0<=C)(f:∀w∈j,0<=w.2)(d:(dw j λ_=>1)<=1)(g:∀k,y k<=C)(lo:∀k,-C<=y k):dw j y<=C/\-C<=dw j y:=by
 have a:=Zz (M:=C) (x:=y) (j:=j) λw e=>⟨f w e,g w.1⟩;have b:=Zz (M:=C) (x:=λk=>-(y k)) (j:=j) λw e=>⟨f w e,by have:=lo w.1;grind⟩;rw[Ra]at b;rw[<- Ej]at d;have c:Io j*C<=1*C:=l_ d h;constructor<;>grind
def Ya{t:xk}{l:zD}(a:nY t l)(h:kr t C):cf l C:=by
 refine⟨by rw[h.len,a.len],λk d os g c=>?_⟩;have e:k<t.length:=by rw[<- a.len];exact(ao.mp c).1
 have b:=aj e;obtain⟨i,f,rfl⟩:=a.at_ k _ os b c;have:=h.ok k d _ g b;rw[ak,VZ,f,UV];exact this
open Rw (sg iu gq bZ iU jt Big sz)
def z8(s:Rat)(y:Nat->Rat)(t:xk)(C:zS)(k:Nat):Rat:=match(C.getD k none).bind λd=>(t.getD k [])[d]? with
 |none=>0
 |some d=>oR s y d
def Kf{d:LD}{t:Str}(h:LDk m d):JD s y (Tv t d)=oR s y d:=by
 obtain⟨q,a,_,b⟩:=h.all;unfold JD oR;rw[(J2 a b).sum]
def UD{t:xk}{l:zD}(c:nY t l)(k d:Nat):∃a:Str,(l.getD k [])[d]?=((t.getD k [])[d]?).map (Tv a):=by
 by_cases h:k<t.length
 .have f:=aj h;have e:=aj (show k<l.length by rwa[c.len]);obtain⟨g,b,i⟩:=c.at_ k _ _ f e;rw[au,au,f,e];show ∃a,(l[k]'(by rwa[c.len]))[d]?=(t[k][d]?).map (Tv a);rw[i,aq];by_cases hd:d<t[k].length
  .refine⟨g[d]' wp,?_⟩;rw[aj (show d<(g.zip t[k]).length by rw[VZ];lia),aj hd,getElem_zip]
   rfl
  .exact⟨⟨#[]⟩,by rw[aM (show(g.zip t[k]).length<=d by rw[VZ];lia),aM (show t[k].length<=d by exact VS hd)];rfl⟩
 .have f:t[k]?=none:=aM (VS h);have e:l[k]?=none:=aM (by rw[c.len];exact VS h);exact⟨⟨#[]⟩,by rw[au,au,f,e];rfl⟩
def R3{t:xk}{l:zD}(hd:DSk m X t)(g:nY t l)(h:k<C.length):oW s y ((cb l C).getD k none)=z8 s y t C k:=by
 have e:=aj h;rw[C_ e];unfold z8;rw[show C.getD k none=C[k]by rw[au,e];rfl];cases C[k]with
 |none =>
  show(0:Rat)+s*0=0
  grind
 |some d =>
  obtain⟨a,i⟩:=UD g k d;show oW s y ((l.getD k [])[d]?)=match(t.getD k [])[d]? with|none=>0|some d=>oR s y d
  rw[i];cases b:(t.getD k [])[d]? with
  |none =>
   show(0:Rat)+s*0=0
   grind
  |some x =>
   have f:LDk m x:=by
    by_cases c:k<t.length
    .rw[au,aj c]at b;exact hd.ok _ (aU c) x (aC b)
    .have:t[k]?=none:=aM (VS c);rw[au,this]at b;cases b
   exact Kf f
structure mi(s:Rat)(m:Nat)(t:xk)(A:xz):Prop where
 len:A.length=m
 le:∀(k:Nat)ds,t[k]?=some ds->∀d∈ds,oR s (λj=>A.getD j 0) d<=A.getD k 0
 no:∀k,k<m->t.getD k []=[]->A.getD k 0=0
def _K{t:xk}(hd:DSk m X t)(h:mi s m t A)(c:kr t C)(n:k<m):z8 s (λj=>A.getD j 0) t C k<=A.getD k 0:=by
 have l:k<t.length:=by rwa[hd.len]
 have b:=aj l;have i:k<C.length:=by rwa[c.len]
 have g:=aj i;have a:=c.ok k _ _ g b;have f:t.getD k []=t[k]:=by rw[au,b];rfl
 unfold z8;rw[f,show C.getD k none=C[k]by rw[au,g];rfl];cases e:C[k]with
 |none =>
  rw[e]at a;have:t[k].length=0:=of_decide_eq_true a;rw[h.no k n (by rw[f];exact List.length_eq_zero_iff.mp this)];exact VQ
 |some d =>
  rw[e]at a;have ld:d<t[k].length:=of_decide_eq_true a;show(match t[k][d]? with|none=>0|some d=>oR s _ d)<=_;rw[aj ld];exact h.le k _ b _ (aU ld)
def PD{M:Nat}{t:xk}{l:zD}(hd:DSk m X t)(n:nY t l){F:xL}(h:Zy s l M C F){p:eR}(e:F.getLast?=some p):mi s m t p.2:=by
 have w:p∈F:=List.mem_of_getLast? e;obtain⟨B,A,_⟩:=h.told.ok p w;have I:l.length=m:=by rw[n.len,hd.len]
 have y:=h.last p e;refine⟨by rw[A.1,I],λk i E x K=>?_,λk U R=>?_⟩
 .have S:k<t.length:=(ao.mp E).1;have lo:k<l.length:=by rwa[n.len]
  have r:=aj lo;obtain⟨u,T,g⟩:=n.at_ k i _ E r;have z:k<p.1.length:=by rwa[B.len]
  have f:=aj z;have q:=B.ok k _ _ f r;have v:l[k].length=i.length:=by rw[g,ak,VZ];lia
  obtain⟨j,G⟩:=aV K;have Q:j<i.length:=(ao.mp G).1;have d:j<l[k].length:=by rwa[v]
  have D:l[k][j]=Tv (u[j]' wp) x:=by
   have:(l[k])[j]?=some (Tv (u[j]' wp) x):=by
    rw[g,aq,aj (show j<(u.zip i).length by rw[VZ];lia),getElem_zip];rw[aj Q]at G;cases G
    rfl
   rw[aj d]at this;exact Option.some.inj this
  have P:=hd.ok i (aC E) x K;have a:=A.2 k lo;rw[C_ f]at a;cases H:p.1[k]with
  |none =>
   rw[H]at q;have:l[k].length=0:=of_decide_eq_true q;lia
  |some c =>
   rw[H]at f a;have J:c<l[k].length:=by rw[H]at q;exact of_decide_eq_true q
   obtain⟨b,L,N⟩:=y.some k c _ f r;rw[f]at L;cases L;have o:gZ s (tops (b_ 1 p.2) p.2) (b_ 1 p.2) l[k][j]<=gZ s (tops (b_ 1 p.2) p.2) (b_ 1 p.2) l[k][c]:=by
    rcases N with⟨le,_⟩|⟨lt,_⟩
    .have:=le _ (YV.mpr ⟨_,aU d,rfl⟩);rw[au,aq,aj J]at this;exact this
    .exact absurd lt (by grind)
   rw[qJ,qJ]at o;have V:=d9 p.2 VU;have O:(0:Rat)<((b_ 1 p.2:Nat):Rat):=by
    have:((0:Int):Rat)<(((b_ 1 p.2:Nat):Int):Rat):=Rat.intCast_lt_intCast.mpr wp;exact this
   have o:=Rat.not_lt.mp λlt=>absurd o (Rat.not_le.mpr ((Rat.mul_lt_mul_right O).mpr lt));rw[D,Kf P]at o;have a:p.2.getD k 0=oW s (λk=>p.2.getD k 0) ((l.getD k [])[c]?):=a;rw[au (l:=l),r]at a;have a:p.2.getD k 0=oW s (λk=>p.2.getD k 0) (l[k][c]?):=a;rw[aj J]at a;rwa[a]
 .have lo:k<l.length:=by rwa[I]
  have z:k<p.1.length:=by rwa[B.len]
  rw[A.2 k lo,R3 hd n z];unfold z8;rw[R];cases p.1.getD k none<;>rfl
def acz{t:xk}{l:zD}(q:0<=s)(p:s<1)(n:∀v∈l,∀o∈v,ck s l.length o.ways)(hd:DSk m X t)(d:nY t l)(f:kr t C)(u:lB s l C M)(h:mi s m t A):∀k,k<m->M.getD k 0<=A.getD k 0:=λk w=>by
 have r:l.length=m:=by rw[d.len,hd.len]
 have e:=Ya d f;have:=sub_le (m:=l.length) (j:=λi=>kY ((cb l C).getD i none)) q p (Bo n e) (x:=λc=>M.getD c 0-A.getD c 0) (λi g=>by
  have a:=u.2 i g;have b:=_K hd h f (k:=i) (aR g (WG r));rw[<- R3 hd d (by rwa[e.len])]at b;unfold oW at a b;rw[Ds];show M.getD i 0-A.getD i 0<=_
  grind) k wp
 grind
open Rw (sg iu gq bZ iU jt Big vr)
def Yu(h:Sys I N)(G:∀r∈I,sg (λj=>r.getD j 0*y j) I.length=r.getD I.length 0):∃D:Nat,0<D/\D<=(2*(I.length+1)*N)^I.length/\∀i,i<I.length->(y i).den ∣ D:=by
 have q:∀l,l<I.length->I.getD l []∈I:=λl m=>by
  rw[au,aj m];exact aU m
 obtain⟨a,⟨s,O,x⟩,K,E⟩:=Rw.Yx (p:=I.length) (N:=N) (C:=λk l=>(kI (I.getD l [])).1.getD k 0) h.one λk l P m=>by
  have B:=h.lev _ (q l m);rw[au];cases e:(kI (I.getD l [])).1[k]? with
  |none=>exact aZ _
  |some t=>exact B.top t (aC e)
 have u:∀r∈I,sg (λj=>r.getD j 0*(a j:Rat)) (I.length+1)=0:=λr d=>by
  obtain⟨l,A⟩:=aV d;have m:=(ao.mp A).1;have J:I.getD l []=r:=by rw[au,A];rfl
  have z:=E l m;rw[J]at z;have F:sg (λk=>((a k*(kI r).1.getD k 0:Int):Rat)) (I.length+1)=0:=by rw[<- Rw.Kc,z];rfl
  have Q:=d9 r VU;have M:(((kI r).2:Int):Rat)≠0:=λw=>by
   have:(kI r).2=0:=Rat.intCast_eq_zero_iff.mp w;have:((b_ 1 r:Nat):Int)=0:=this;lia
  rw[bZ (g:=λk=>(1/(((kI r).2:Int):Rat))*((a k*(kI r).1.getD k 0:Int):Rat)) λj _=>?_,gq,F,Rat.mul_zero];rw[<- Ms r j,XU];unfold vr
  grind
 have b:∀(f:Nat->Rat),sg f (I.length+1)=sg f I.length+f I.length:=λf=>rfl;have Y:a I.length≠0:=λz=>by
  have:=h.inj (λj=>if j<I.length then(a j:Rat)else 0) (λj n=>ZZ (JY n)) λr d=>by
   refine(bZ λj n=>?_).trans (u r d);by_cases c:j<I.length
   .rw[ZY c]
   .rw[ZZ c,show j=I.length by lia,z];rfl
  by_cases c:s<I.length
  .have w:=this s c;rw[ZY c]at w;exact x (Rat.intCast_eq_zero_iff.mp w)
  .exact x (by rw[show s=I.length by lia];exact z)
 have H:∀i,i<I.length->(a I.length:Rat)*y i+(a i:Rat)=0:=λi o=>by
  have:=h.inj (λj=>if j<I.length then(a I.length:Rat)*y j+(a j:Rat)else 0) (λj n=>ZZ (JY n)) (λr d=>by
   rw[b,ZZ (Wp _),Rat.mul_zero,Rat.add_zero];rw[bZ (g:=λj=>(a I.length:Rat)*(r.getD j 0*y j)+r.getD j 0*(a j:Rat)) λj n=>by rw[ZY n];grind,iu,gq,G r d];have:=u r d;rw[b]at this
   grind) i o
  rw[ZY o]at this;exact this
 have v:0<(a I.length).natAbs:=by lia
 refine⟨(a I.length).natAbs,v,K _,λi o=>(xM v).mpr ?_⟩;have e:=H i o;have L:(a I.length:Rat)≠0:=λz=>Y (Rat.intCast_eq_zero_iff.mp z);rcases Int.natAbs_eq (a I.length)with c|c
 .refine⟨-(a i),?_⟩;rw[<- c,UQ,Rat.intCast_neg]
  grind
 .refine⟨a i,?_⟩;rw[show(((a I.length).natAbs:Nat):Int)=-(a I.length)by lia,UQ,Rat.intCast_neg]
  grind
def Shr.left(h:Shr s):(1:Rat)<=(1-s)*100:=by
 have e:=(one_sub (a:=s.num) (b:=(s.den:Nat)) (lC s));rw[rd]at e;have d:=(lt_iff s 1).mp h.hi;have d:s.num*((1:Nat):Int)<1*(s.den:Int):=d;have hd:=h.den;have i:=s.den_pos;have m:=df (a:=(s.den:Int)-s.num) (b:=(s.den:Nat)) wp;rw[<- e]at m;have a:((1:Int):Rat)<=(((s.den:Int)-s.num:Int):Rat):=Rat.intCast_le_intCast.mpr wp;have b:(((s.den:Nat):Int):Rat)<=((100:Int):Rat):=Rat.intCast_le_intCast.mpr wp;have p:(0:Rat)<=1-s:=by have:=h.hi;grind
 have c:=UH b p;have g:((1:Int):Rat)=1:=rfl;have f:((100:Int):Rat)=100:=rfl;rw[m]at c;rw[g]at a;rw[f]at c;exact Tu a c
def VN{A:Nat}(h:r.num.natAbs<=A):r<=(A:Rat)/\-(A:Rat)<=r:=by
 have a:=r.den_pos;constructor
 .refine(le_iff r (A:Rat)).mpr ?_;show r.num*((1:Nat):Int)<=(A:Int)*(r.den:Int);have:(A:Int)*1<=(A:Int)*(r.den:Int):=Int.mul_le_mul_of_nonneg_left wp (WZ _);omega
 .refine(le_iff (-(A:Rat)) r).mpr ?_;show -(A:Int)*(r.den:Int)<=r.num*((1:Nat):Int);have:(A:Int)*1<=(A:Int)*(r.den:Int):=Int.mul_le_mul_of_nonneg_left wp (WZ _);rw[Int.neg_mul];omega
def _4{p x:Rat}(c:Shr s)(f:p.num.natAbs<=10^30)(h:x<=(VV:Rat))(g : -(VV:Rat)<=x):p+s*x<=(VV:Rat)/\-(VV:Rat)<=p+s*x:=by
 obtain⟨a,b⟩:=VN f;have l:=c.left;have j:=UH h c.lo;have i:=UH g c.lo;have v:(VV:Rat)=100*((10^30:Nat):Rat):=by decide +kernel
 have e:(0:Rat)<=((10^30:Nat):Rat):=by decide +kernel
 have d:=l_ l e;constructor<;>grind
def abw{c:Nat->xB}(n:Shr s)(q:∀i,i<m->CoB m W U S (c i))(D:W<=10^30)(t:∀i,i<m->y i=oW s y (c i)):∀i,i<m->y i<=(VV:Rat)/\-(VV:Rat)<=y i:=λi o=>by
 have z:(0:Rat)<=(VV:Rat):=by decide +kernel
 have p:∀(C:Rat)(j:zI),dw j (λ_=>C)=C*Io j:=λC j=>by
  induction j with
  |nil=>show(0:Rat)=C*0;grind
  |cons w j B=>rw[cZ,Br,B];grind
 have l:=n.left;have v:(VV:Rat)=100*((10^30:Nat):Rat):=by decide +kernel
 have A:(0:Rat)<=((10^30:Nat):Rat):=by decide +kernel
 have d:=l_ l A;have u:∀k,k<m->(pU (c k)<=((10^30:Nat):Rat)/\-((10^30:Nat):Rat)<=pU (c k))/\s*((VV:Rat)*Io (kY (c k)))<=s*(VV:Rat):=λk h=>by
  refine⟨VN (aL (q k h).pn D),?_⟩;have r:=(CoB.sh (s:=s) (q k h)).one;have:=UH r z;have:=UH this n.lo
  grind
 constructor
 .have:=sub_le (m:=m) (j:=λi=>kY (c i)) n.lo n.hi (λi o=>(q i o).sh) (x:=λf=>y f-(VV:Rat)) (λk h=>by
   rw[Ds,p];have e:=t k h;unfold oW at e;obtain⟨⟨a,b⟩,g⟩:=u k h;show y k-(VV:Rat)<=_
   grind) i o
  grind
 .have:=sub_le (m:=m) (j:=λi=>kY (c i)) n.lo n.hi (λi o=>(q i o).sh) (x:=λf=>-(y f)-(VV:Rat)) (λk h=>by
   rw[Ds (λf=>-(y f)),p,Ra];have e:=t k h;unfold oW at e;obtain⟨⟨a,b⟩,g⟩:=u k h;show -(y k)-(VV:Rat)<=_
   grind) i o
  grind
def Ho:ST:=λe q=>∃a b c d:Int,e=[pT a b,pT c d]/\0<b/\0<d/\(Bd a/\Bd b/\Bd c/\Bd d)/\q (.fz (.bl (decide (divInt a b<divInt c d))))
def aaC(F:Fun K yX yX Qs f G):bW P w K mg base ab 1 f G uY (am K Ho):=by
 refine F.okT ac8 (λ_ _=>bH (bN (xH CV (bL cQ (bJ wn bA) (bJ we bA)) (bL cQ (bJ we bA) (bJ wn bA))))) ?_;rintro _ R ⟨a,b,c,d,rfl,e,hd,⟨j,i,h,g⟩,q⟩;refine⟨⟨j,g⟩,⟨h,i⟩,?_⟩;rw[decide_eq_decide.mpr (SC e hd)]at q;exact q
def Wo:ST:=λe q=>∃a b c d:Int,e=[pT a b,pT c d]/\0<b/\0<d/\(Bd a/\Bd b/\Bd c/\Bd d)/\q (.fz (.bl (decide (divInt a b=divInt c d))))
def _3(F:Fun K J6 J6 dS f G):bW P w K mg base ab 1 f G Gg (am K Wo):=by
 refine F.okT VA (λe _=>bH (bN (xH (yA e.units) (bL cQ (bJ wn bA) (bJ we bA)) (bL cQ (bJ we bA) (bJ wn bA))))) ?_;rintro _ R ⟨a,b,c,d,rfl,g,hd,⟨k,j,i,h⟩,q⟩;refine⟨⟨k,h⟩,⟨i,j⟩,?_⟩;rw[decide_eq_decide.mpr (div_eq g hd)]at q;exact q
def sJ(l:zD):zS:=l.map λa=>if 0<a.length then some 0 else none
def Am(l:zD):cf l (sJ l):=by
 refine⟨ak ..,λk d b a c=>?_⟩;unfold sJ at a;rw[aq,c]at a;cases a;show Px (if 0<b.length then some 0 else none) b.length=true;split
 .rename_i h;exact Zs h
 .rename_i h;exact Zs wp
def uf(D:a'):ST:=λa q=>∃(s:Rat)(d:Φ)(l:zD),a=[bu D s d l]/\yc d l/\q (.l1 ((sJ l).map dT))
def O6(F:Fun K lF lF qQ f G)(T:Txt K mg D)(m:OkI P w K mg base ab 1 D.Hall_size fu (am K (j4 D)))(n:OkI P w K mg base ab 3 D.Hall_offers dY (am K (rF D))):bW P w K mg base ab 4 f G jo (am K (uf D)):=by
 refine F.okT NZ (λ_ _=>bH (bN (c7 (bG qQ) wM wM ["room"] (fM T.gF (bx (vg wn T.i_ T.nu m (KS:=kO)) bC)) (d_ (i:=0)) cC (Pb (cj I_ (bY eG T.gk VY (bx (Bw we T.i_ T.jB n (bx wn bC) (KS:=kO)) bC)) bA) bA iD)))) ?_;rintro _ R ⟨s,d,l,rfl,h,q⟩;have g:=h.few;have o:=h.len;have j:(range d.length).map (λk=>dT (if 0<(l.getD k []).length then some 0 else none))=(sJ l).map dT:=by
  refine List.ext_getElem? λk=>?_;unfold sJ;rw[aq,aq,aq];by_cases b:k<d.length
  .rw[Up b,aj (show k<l.length by lia)];show some (dT (if 0<(l.getD k []).length then some 0 else none))=some (dT (if 0<l[k].length then some 0 else none));rw[show l.getD k []=l[k]by rw[au,aj (show k<l.length by lia)];rfl]
  .rw[aM (by rw[WH];exact VS b),aM (show l.length<=k by lia)]
   rfl
 refine⟨⟨rfl,rfl⟩,s,d,l,rfl,⟨by lia,by lia⟩,by rw[rng,ak,WH];exact aL (show _<=1000 by lia) wf,Ua (λk=>dT (if 0<(l.getD k []).length then some 0 else none)) d.length (λk b N M a=>?_) ?_⟩
 .have e:=aj (show k<l.length by lia);rw[au,e]at a;have a:N (dT (if 0<l[k].length then some 0 else none)):=a;refine⟨⟨rfl,rfl⟩,s,d,l,k,_,rfl,h,e,?_⟩;by_cases c:0<l[k].length
  .rw[ZY c]at a;exact fh (Zs (by rw[ak];lia)) a
  .rw[ZZ c]at a;exact dz (Zp (by rw[ak];lia)) a
 .rw[j];exact q
def LR(D:a'):ST:=λa q=>∃(s:Rat)(d:Φ)(l:zD)(N:Nat),a=[bu D s d l]/\yc d l/\fF s l N/\∀(F:xL)(p:eR),Zy s l ((2*l.length*N)^l.length) (sJ l) F->F.getLast?=some p->q (.fz (hL p))
def Yd(F:Fun K xG xG Ii f G)(T:Txt K mg D)(b:ag P w K mg base 4 lF jo (uf D))(c:ag P w K mg base 10 tW pP (IW D)):bW P w K mg base ab 11 f G rW (am K (LR D)):=by
 refine F.okT Yr (λ_ _=>bH (bN (bJ (bI c (bx wn (bx (bI b (bx wn bC)) bC))) (uL bA)))) ?_;rintro _ R ⟨s,d,l,N,rfl,h,B,q⟩;refine⟨s,d,l,rfl,h,s,d,l,sJ l,N,rfl,h,Am l,B,λF a=>?_⟩;cases e:F.getLast? with
 |none=>exact absurd (List.getLast?_eq_none_iff.mp e) a.ne
 |some p=>exact⟨_,BL e,q F p a e⟩
def HJ(s:Rat)(m:Nat)(t:xk)(C:zS)(A:xz):xz:=(range m).map λk=>z8 s (λj=>A.getD j 0) t C k
def abC{t:xk}(a:k<m):(HJ s m t C A).getD k 0=z8 s (λj=>A.getD j 0) t C k:=by
 unfold HJ;rw[au,aq,Up a]
 rfl
open Rw (sg iu gq bZ iU jt Big vr)
structure YsK(e:Nat)(A:xz):Prop where
 cm:∃L:Nat,0<L/\L<=10^e/\∀y∈A,y.den ∣ L
 hi:∀y∈A,y<=(VV:Rat)
 lo:∀y∈A,-(VV:Rat)<=y
def abn{a:xp}(h:Bl s a y):∀r∈Fx (Dj s a) (a.map pU),sg (λj=>r.getD j 0*y j) a.length=r.getD a.length 0:=λr b=>by
 obtain⟨i,d,rfl⟩:=JW b;rw[eh,<- h i d];exact bZ λj c=>ZH (· * y j) (XJ _ _ c)
def X7{l:zD}(c:∀d∈l,∀o∈d,ck s l.length o.ways)(a:cf l C)(h:lB s l C M):Bl s (cb l C) λk=>M.getD k 0:=by
 have b:=Hv a;refine(Hy (by rw[b];exact Bo c a)).mpr λi e=>?_;exact h.2 i (by rwa[<- b])
def Wn{l:zD}(g:∀n∈l,∀o∈n,ck s l.length o.ways)(c:cf l C)(h:Bl s (cb l C) y):lB s l C ((range l.length).map y):=by
 have e:((range l.length).map y).length=l.length:=by rw[ak,WH]
 have a:∀k,k<l.length->((range l.length).map y).getD k 0=y k:=λk m=>by rw[au,aq,Up m];rfl
 refine⟨e,λi b=>?_⟩;have f:=Bo g c;have d:=Hv c;rw[a i b,(Hy (by rwa[d])).mp h i (by rwa[d])];unfold oW;rw[K4 (x:=λk=>((range l.length).map y).getD k 0) (z:=y) λw j=>a w.1 ((f i b).lt w j)]
def mem_getD(l:A.length=m){y:Rat}(h:y∈A):∃k,k<m/\y=A.getD k 0:=by
 obtain⟨k,e⟩:=aV h;exact⟨k,by rw[<- l];exact(ao.mp e).1,by rw[au,e];rfl⟩
def Wl(h:m<=6):(2*(m+1)*((10^30+1)*(100*4000*1000)))^m<=10^244:=by
 obtain rfl|rfl|rfl|rfl|rfl|rfl|rfl:m=0\/m=1\/m=2\/m=3\/m=4\/m=5\/m=6:=by lia
 all_goals decide +kernel
def acP(h:m<=8):(2*(m+1)*((9+1)*(100*1*1)))^m<=10^244:=by
 obtain rfl|rfl|rfl|rfl|rfl|rfl|rfl|rfl|rfl:m=0\/m=1\/m=2\/m=3\/m=4\/m=5\/m=6\/m=7\/m=8:=by lia
 all_goals decide +kernel
def W3{l:zD}(m:Shr s)(g:l.length<=100)(h:∀e∈l,∀o∈e,OfB l.length W U S o)(B:1<=U)(A:1<=S)(x:W<=10^30)(z:N=(W+1)*(100*S*U))(j:(2*(l.length+1)*N)^l.length<=10^244)(v:N<=NN)(n:cf l C)(a:lB s l C M):YsK 244 M:=by
 have f:=Hv n;have G:=C8 (C:=C) h;have u:∀e∈l,∀o∈e,ck s l.length o.ways:=λe E o w=>let b:=h e E o w;⟨b.lt,b.nn,b.one⟩;have I:(2*l.length*N)^l.length<=NN:=aL (Nat.pow_le_pow_left (ki _ wp) _) (aL j (XG wf wf));have t:=Fh m (cs:=cb l C) (aL (WG f) g) (by rwa[f]) B A z (by rwa[f]) v;have wo:=X7 u n a;obtain⟨D,F,q,p⟩:=Yu t (y:=λk=>M.getD k 0) (by rw[vD];exact abn wo);rw[vD,f]at q p;have H:∀i,i<l.length->CoB l.length W U S ((cb l C).getD i none):=λi J=>G _ (by rw[au,aj (by rwa[f])];exact aU _);have r:=abw m H x (y:=λk=>M.getD k 0) a.2;refine⟨⟨D,F,aL q j,λy c=>?_⟩,λy c=>?_,λy c=>?_⟩
 .obtain⟨k,d,rfl⟩:=mem_getD a.1 c;exact p k d
 .obtain⟨k,d,rfl⟩:=mem_getD a.1 c;exact(r k d).1
 .obtain⟨k,d,rfl⟩:=mem_getD a.1 c;exact(r k d).2
def adB{t:xk}{l:zD}(d:Shr s)(hd:DSk m 4 t)(f:cu m t)(b:nY t l)(e:cf l C)(c:lB s l C M):YsK 244 M:=by
 have a:l.length=m:=by rw[b.len,hd.len]
 rcases f with h|⟨h,g⟩
 .exact W3 d wp (by rw[a];exact Zn hd b) wf wf wf rfl (Wl (aL (WG a) h)) (by decide +kernel) e c
 .exact W3 d wp (by rw[a];exact Wh hd g b) wf wf wf rfl (acP (aL (WG a) h)) (by decide +kernel) e c
def hW(f:Nat->Nat):Nat->Nat
 |0=>1
 |n+1=>hW f n*f n
theorem E3{f:Nat->Nat}{k:Nat} : ∀{m:Nat},k<m->f k ∣ hW f m
 |0,h=>absurd h (WU _)
 |m+1,h=>by
  by_cases c:k=m
  .rw[c];exact dvd_mul_left _ _
  .exact TR (E3 (show k<m by exact XX (UZ h) c)) (Nat.dvd_mul_right _ _)
theorem YH{f:Nat->Nat}{c:Nat}(h:∀k,f k<=c):∀m,hW f m<=c^m
 |0=>aG 1
 |m+1=>by rw[pow_succ];exact W1 (YH h m) (h m)
theorem Ui{f:Nat->Nat}(h:∀k,0<f k):∀m,0<hW f m
 |0=>VU
 |m+1=>UP (Ui h m) (h m)
def dr(t:xk)(C:zS)(k:Nat):Option LD:=(C.getD k none).bind λd=>(t.getD k [])[d]?
def fk(t:xk)(C:zS)(k:Nat):Nat:=match dr t C k with
 |none=>1
 |some d=>b_ 1 (d.prs.map (·.2))*d.pay.den
def pz{t:xk}(hd:DSk m X t){d:LD}(e:dr t C k=some d):LDk m d/\∃b∈t,d∈b:=by
 unfold dr at e;cases a:C.getD k none with
 |none=>rw[a]at e;cases e
 |some c =>
  rw[a]at e;have e:(t.getD k [])[c]?=some d:=e;by_cases z:k<t.length
  .rw[au,aj z]at e;exact⟨hd.ok _ (aU z) d (aC e),_,aU z,aC e⟩
  .have:t[k]?=none:=aM (VS z);rw[au,this]at e;cases e
def EJ(t:xk)(C:zS)(k:Nat):0<fk t C k:=by
 unfold fk;split
 .exact VU
 .exact UP (d9 _ VU) (Rat.den_pos _)
def Mn{t:xk}(hd:DSk m X t)(i:cu m t)(C:zS):hW (fk t C) m<=10^40:=by
 rcases i with h|⟨h,o⟩
 .have:∀k,fk t C k<=4000*1000:=λk=>by
   unfold fk;cases e:dr t C k with
   |none=>exact TZ rfl
   |some d =>
    have c:=(pz hd e).1;obtain⟨q,l,j,p⟩:=c.all;refine W1 (aL (UX l (jE _ (U1 _) λr b=>?_)) j) c.pay.den;obtain⟨x,a,rfl⟩:=YV.mp b;exact(p x a).2.2
  exact aL (YH this m) (aL (XG wf h) (by decide +kernel))
 .have:∀k,fk t C k<=1:=λk=>by
   unfold fk;cases e:dr t C k with
   |none=>exact aG _
   |some d =>
    obtain⟨_,u,s,n⟩:=pz hd e;obtain⟨g,_,f⟩:=o u s d n;show b_ 1 (d.prs.map (·.2))*d.pay.den<=1;rw[g,Nat.mul_one];exact UX VU (jE _ (U1 _) λr b=>by
     obtain⟨x,a,rfl⟩:=YV.mp b;rw[f x a];exact Qr 1)
  have:=YH this m;rw[Nat.one_pow]at this;exact aL this (pow_pos wf)
theorem ET{q L:Nat}(a:0<q)(b:0<L){y:Nat->Rat}(c:∀k,(y k).den ∣ L):∀{j:zI},(∀w∈j,w.2.den ∣ q)->(dw j y).den ∣ q*L
 |[],_=>U1 _
 |w::j,h=>by
  rw[cZ];exact yL (UP a b) (di a b (h w (aO ..)) (c w.1)) (ET a b c λx d=>h x (aJ _ d))
def SY{e:Nat}{t:xk}(v:Shr s)(hd:DSk m X t)(B:cu m t)(C:zS)(h:YsK e A):YsK (e+42) (HJ s m t C A):=by
 obtain⟨L,n,D,F⟩:=h.cm;have G:∀k,(A.getD k 0).den ∣ L:=λk=>by
  rw[au];cases e:A[k]? with
  |none=>exact U1 _
  |some y=>exact F y (aC e)
 have x:∀k,A.getD k 0<=(VV:Rat)/\-(VV:Rat)<=A.getD k 0:=λk=>by
  rw[au];cases e:A[k]? with
  |none=>exact⟨by show(0:Rat)<=_;decide +kernel,by show _<=(0:Rat);decide +kernel⟩
  |some y=>exact⟨h.hi y (aC e),h.lo y (aC e)⟩
 have o:=s.den_pos;have l:∀k,z8 s (λc=>A.getD c 0) t C k=match dr t C k with|none=>0|some d=>oR s (λc=>A.getD c 0) d:=λk=>rfl
 have z:∀k,z8 s (λc=>A.getD c 0) t C k<=(VV:Rat)/\-(VV:Rat)<=z8 s (λc=>A.getD c 0) t C k:=λk=>by
  rw[l];cases e:dr t C k with
  |none=>exact⟨by show(0:Rat)<=_;decide +kernel,by show _<=(0:Rat);decide +kernel⟩
  |some d =>
   have p:=(pz hd e).1;have r:=Se (y:=λk=>A.getD k 0) (C:=(VV:Rat)) (by decide +kernel) (j:=d.prs) p.nn (by rw[vI,p.one];exact VQ) (λk=>(x k).1) λk=>(x k).2;exact _4 v p.pay.num r.1 r.2
 refine⟨⟨L*(s.den*hW (fk t C) m),UP n (UP o (Ui (EJ t C) m)),?_,λy g=>?_⟩,λy g=>?_,λy g=>?_⟩
 .rw[UY,show 10^42=10^2*10^40 by rw[<- UY]];exact W1 D (W1 v.den (Mn hd B C))
 .obtain⟨k,i,rfl⟩:=YV.mp g;have i:=List.mem_range.mp i;have q:=E3 (f:=fk t C) i;rw[l];cases e:dr t C k with
  |none=>exact U1 _
  |some d =>
   have H:fk t C k=b_ 1 (d.prs.map (·.2))*d.pay.den:=by unfold fk;rw[e]
   rw[H]at q;have u:=d9 (d.prs.map (·.2)) VU;have I:=d.pay.den_pos;have all:=UP n (UP o (Ui (EJ t C) m));show(d.pay+s*dw d.prs λc=>A.getD c 0).den ∣ _;refine yL all ?_ ?_
   .exact TR (TR (dvd_mul_left _ _) q) (TR (dvd_mul_left _ _) (dvd_mul_left _ _))
   .have a:=di o (UP u n) (Qr s.den) (ET u n G (j:=d.prs) λw hw=>(jN _).2 _ (YV.mpr ⟨w,hw,rfl⟩));refine TR a ?_;obtain⟨b,E⟩:=q;exact⟨b*d.pay.den,by rw[E];grind⟩
 .obtain⟨k,i,rfl⟩:=YV.mp g;exact(z k).1
 .obtain⟨k,i,rfl⟩:=YV.mp g;exact(z k).2
def rZ(D:a'):ST:=λa q=>∃(s:Rat)(d:Φ)(l:zD)(R:Nat),a=[bu D s d l,.int (R:Nat)]/\yc d l/\R<=40/\hA s l R/\∀L:wv,L.length=R+1->RdL s l L->q (.l1 (L.map bp))
def Xo(j:dL P w K mg base 8 dJ dI (BZ K D)):hE P w K mg base (fi K D) 8 dJ dI (rZ D):=by
 obtain⟨f,G,F,b,C,A⟩:=j;refine⟨f,G,F.imp λJ H Q E h=>?_,b,C,A⟩;obtain⟨a,t,V,i,I,M,⟨c,m,x⟩,u,⟨s,d,l,R,rfl,h,B,y,z⟩,q⟩:=h;cases M;obtain⟨U,v,rfl,_,r⟩:=u.two;cases I;cases r;refine⟨a,R,s,d,l,some c,rfl,m,x,h,B,y,λL T O v g rd S k N n=>q T v _ (z L g rd) (λb w e=>?_) n⟩;obtain rfl:=N c rfl;by_cases p:b=D.T_best_rounds
 .subst p;rw[m.1]at e;cases e;exact k.1
 by_cases o:b=O
 .subst o;rw[m.2]at e;cases e;exact k.2
 exact(w5 (S b w (by rw[z_ (by simp;exact⟨p,o⟩)];exact e))).2
def Rz.neg{d:Nat}(h:Rz n d a):Rz n d (-a):=⟨by rw[Rat.neg_num,natAbs_neg];exact h.1,by rw[Rat.neg_den];exact h.2⟩
def L7{l:List Q}{g:Q->L2.T}{a:Q}(h:2<=l.length)(e:l[l.length-2]?=some a):ca (l.map g) (-2)=some (g a):=by
 show dq (l.map g).reverse 1=_;rw[qm,<- List.map_reverse,aq,List.getElem?_reverse (aR (X2 _) h),show l.length-1-1=l.length-2 by lia,e]
 rfl
def MU(l:xz)(g:Rat):Prop:=g∈l/\∀x∈l,g<=x
def No(l:xz)(g:Rat):Prop:=g∈l/\∀x∈l,x<=g
def ia(s:Rat)(a J lo b:xz):Prop:=∃g h:Rat,(J≠[]->MU (kZ a J) g/\No (kZ a J) h)/\lo=J.map (λv=>v+a8 s g)/\b=J.map λv=>v+a8 s h
def FB(s:Rat)(l:zD)(n:Nat):Prop:=∀L,RdL s l L->∀(k:Nat)A,k<=n->L[k]?=some A->A.length=l.length/\∀y∈A,Rz 640 610 y
def Er(D:a'):ST:=λc q=>∃(s:Rat)(d:Φ)(l:zD)(n:Nat),c=[bu D s d l,.int (n:Nat)]/\yc d l/\Shr s/\1<=n/\n<=40/\hA s l n/\FB s l n /\
 ∀(L:wv)(a J lo b:xz),RdL s l L->L[n-1]?=some a->L[n]?=some J->ia s a J lo b->q (.fz (.tup [bp lo,bp b]))
theorem RL(F:Fun K qM qM p7 f G)(T:Txt K mg D)(ig:ag P w K mg base 2 je gA qg)(jj:hE P w K mg base (fi K D) 8 dJ dI (rZ D))(T4:ag P w K mg base 4 Gd yO WT)(Bc:ag P w K mg base 4 vM sG Mp)(QC:ag P w K mg base 2 Gb yx WR)(fY:ag P w K mg base 2 iG iH wj)(X:ag P w K mg base 3 BX v8 Ko):bW P w K mg base ab 9 f G nq (gs K (fi K D) 0 (Er D)):=by
 refine F.okG 0 R6 RD (λts R hP=>by obtain⟨_,_,_,_,e,_⟩:=hP;exact e ▸ rfl) λae A I s0 H E hr=>?_;have nd:=RD.nd;refine⟨_,(bF (jx (bI ig (bx we bC)))
  (bF (bO 2 (zL 0 jj hr.md (by rfl) (bx we bC)))
  (bF (bO 3 (bJ wa (uL bA)))
  (bF (cG (cj (yA hr.units) (bY eG T.gk VY (bx wP bC)) bA)
  (bH (bN (dh (bx (eF bC) (bx (eF bC) bC)))))
  bQ)
  (bF (bO 4 (bI T4 (bx (bJ wa (uL bA)) (bx wP bC))))
  (bF (bO 5 (bI Bc (bx (tD (Fm:=bb D) (λb h=>⟨T.cl b h,T.Av b h⟩) (iq 0)) (bx (bI QC (bx wE bC)) bC))))
  (bF (bO 6 (bI Bc (bx (tD (Fm:=bb D) (λb h=>⟨T.cl b h,T.Av b h⟩) (iq 0)) (bx (bI fY (bx wE bC)) bC))))
  (bH (bN (dh (bx (c7 (bG p7) pX pX ["one"] (cI wP) (d_ (i:=0)) cC (bI X (bx wn (bx (qv 6) bC)))) (bx (c7 (bG p7) pX pX ["one"] (cI wP) (d_ (i:=0)) cC (bI X (bx wn (bx (qv 7) bC)))) bC)))))))))))),?_⟩
 rintro _ t R et ⟨s,d,l,n,rfl,h,O,n1,Z,rb,W,q⟩;cases et;refine⟨n,rfl,n1,Z,rfl,s,d,l,n,rfl,h,Z,rb,λL yl rd=>?_⟩;have y:=aj (show n-1<L.length by lia);have U:=aj (show n<L.length by lia);have el:L.getLast?=some L[n]:=by rwa[kj,show L.length-1=n by lia]
 obtain⟨l1,b1⟩:=W L rd (n-1) _ (Nat.sub_le _ _) y;obtain⟨l2,B⟩:=W L rd n _ (aG _) U;have go:=q L L[n-1] L[n];generalize L[n-1]=r at *;generalize L[n]=J at *;refine⟨_,BL el,?_⟩;by_cases c:J=[]
 .subst c;exact go [] [] rd y U ⟨0,0,λz=>absurd rfl z,rfl,rfl⟩
 have v0:0<J.length:=List.length_pos_iff.mpr c;have few:=h.few;have hl:=h.len;refine dz (Zp (by rw[ak];lia)) ?_;have x:∀g∈kZ r J,Rz 1251 1220 g:=λg j=>by
  obtain⟨p,hp,rfl⟩:=YV.mp j;have z1:=B _ (VX hp).1;have z2:=b1 _ (VX hp).2;rw[sub_eq_add_neg];exact z1.add (Rz.neg z2) (k:=1250) wf wf
 have gn:kZ r J≠[]:=λz=>by
  have:=ZH List.length z;unfold kZ at this;rw[ak,VZ,l1,l2,UV]at this;have:l.length=0:=this;lia
 have bq:∀g∈kZ r J,Bq g:=λg j=>(x g j).bq wf wf;have V:∀g∈kZ r J,Rz 1255 1224 (a8 s g):=λg j=>((Z5 O).1.mul (x g j)).mono wf wf;refine⟨_,L7 wp (show L[L.length-2]?=_ by rw[show L.length-2=n-1 by lia];exact y),r,J,rfl,by lia,λa Q=>(b1 a Q).mono wf wf,λa Q=>(B a Q).mono wf wf,?_⟩;refine⟨rJ D,_,rfl,kZ r J,rfl,bq,(λz=>absurd z gn),λg j hx=>⟨s,g,rfl,O,(x g j).mono wf wf,rJ D,_,rfl,kZ r J,rfl,bq,(λz=>absurd z gn),λm u e9=>⟨s,m,rfl,O,(x m u).mono wf wf,?_⟩⟩⟩;have Y:(J.map aa).length<=sizeLine:=by rw[ak];exact aL (show _<=1000 by lia) wf
 have C:∀g∈kZ r J,∀v∈J,Bq v/\Bq (a8 s g)/\Bd ((v.den:Int)*(a8 s g).den):=λg j v o=>⟨(B v o).bq wf wf,(V g j).bq wf wf,(B v o).dd (V g j) wf⟩;refine⟨Y,comp_map aa (λv=>aa (v+a8 s g)) J (λv o N M S=>⟨v,a8 s g,rfl,(C g j v o).1,(C g j v o).2.1,(C g j v o).2.2,S⟩) ⟨Y,comp_map aa (λv=>aa (v+a8 s m)) J (λv o N M S=>⟨v,a8 s m,rfl,(C m u v o).1,(C m u v o).2.1,(C m u v o).2.2,S⟩) ?_⟩⟩;have:=go (J.map λv=>v+a8 s g) (J.map λv=>v+a8 s m) rd y U ⟨g,m,λ_=>⟨⟨j,hx⟩,u,e9⟩,rfl,rfl⟩;rw[show bp (J.map λv=>v+a8 s g)=.lst (J.map λv=>aa (v+a8 s g))by unfold bp;rw[WJ];rfl,show bp (J.map λv=>v+a8 s m)=.lst (J.map λv=>aa (v+a8 s m))by unfold bp;rw[WJ];rfl]at this;exact this
def CJ(D:a'):ST:=λb q=>∃(s:Rat)(d:Φ)(l:zD)(n:Nat),b=[bu D s d l,.int (n:Nat)]/\yc d l/\1<=n/\n<=40/\hA s l n /\
 ∀(L:wv)(a:xz)(C:zS),RdL s l L->L[n-1]?=some a->gl s l a (sJ l) C->q (.l1 (C.map dT))
def Oc(F:Fun K pH pH xg f G)(T:Txt K mg D)(r:ag P w K mg base 2 je gA qg)(o:hE P w K mg base (fi K D) 8 dJ dI (rZ D))(p:ag P w K mg base 4 lF jo (uf D))(j:ag P w K mg base 5 vA rD (Ie D)):bW P w K mg base ab 9 f G lZ (gs K (fi K D) 0 (CJ D)):=by
 refine F.okG 0 R6 N6 (λJ R y=>by obtain⟨_,_,_,_,e,_⟩:=y;exact e ▸ rfl) λN a b M H E u=>?_;have nd:=N6.nd;refine⟨_,(bF (jx (bI r (bx we bC)))
  (bH (bN (bI j (bx (iq 0) (bx (bI p (bx (iq 0) bC)) (bx (bJ (zL 0 o u.md (by rfl) (bx (bL qy we bA) bC)) (uL bA)) bC))))))),?_⟩
 rintro _ t R z ⟨s,d,l,n,rfl,h,m,i,g,q⟩;cases z;refine⟨n,rfl,m,i,s,d,l,rfl,h,rfl,s,d,l,n-1,?_,h,by exact aL (Nat.sub_le _ _) i,λL rd k A x=>g L rd k A (aR x (Nat.sub_le _ _)),λL I rd=>?_⟩
 .show[bu D s d l,L2.T.int ((n:Int)-1)]=[bu D s d l,L2.T.int ((n-1:Nat):Int)];rw[show((n-1:Nat):Int)=(n:Int)-1 by lia]
 have c:=aj (show n-1<L.length by lia);have B:L.getLast?=some L[n-1]:=by rw[kj,show L.length-1=n-1 by lia];exact c
 exact⟨_,BL B,s,d,l,sJ l,L[n-1],rfl,h,Am l,g L rd (n-1) _ (by omega) c,λC v=>q L _ C rd c v⟩
def Tf{t:xk}{l:zD}(a:nY t l)(h:cf l C):kr t C:=by
 refine⟨by rw[h.len,a.len],λk d j i c=>?_⟩;have e:k<l.length:=by rw[a.len];exact(ao.mp c).1
 have b:=aj e;obtain⟨m,f,g⟩:=a.at_ k j _ c b;have:=h.ok k d _ i b;rw[g,ak,VZ,f,UV]at this;exact this
def Y5(k:0<=s)(g:s<1)(h:∀i,i<m->∃j,ck s m j/\x i<=s*dw j x):∀b,b<m->x b<=0:=by
 have l:∀i,∃j,i<m->ck s m j/\x i<=s*dw j x:=λi=>by
  by_cases c:i<m
  .obtain⟨j,a⟩:=h i c;exact⟨j,λ_=>a⟩
  .exact⟨[],λz=>absurd z c⟩
 obtain⟨f,e⟩:=Classical.axiomOfChoice l;exact sub_le k g (λi d=>(e i d).1) λi d=>(e i d).2
def LDk.sh{d:LD}(h:LDk m d):ck s m d.prs:=⟨h.lt,h.nn,by rw[Ej,vI,h.one];exact VQ⟩
def rG{d:LD}(h:LDk m d):oR s (λa=>x a+c) d=oR s x d+s*c:=by
 have e:=Ds (λa=>x a+c) x d.prs;have f:dw d.prs (λa=>x a+c-x a)=c:=by
  have:∀j:zI,dw j (λa=>x a+c-x a)=dw j (λ_=>1)*c:=λj=>by
   induction j with
   |nil=>show(0:Rat)=0*c;grind
   |cons w j b=>rw[cZ,cZ,b];grind
  rw[this,vI,h.one,Rat.one_mul]
 unfold oR
 grind
def Ge{d:LD}(h:LDk m d)(c:0<=s)(l:∀a,a<m->x a<=y a):oR s x d<=oR s y d:=by
 unfold oR;have:=Rt (j:=d.prs) (x:=x) (z:=y) λw b=>⟨h.nn w b,l _ (h.lt w b)⟩;have:=UH this c
 grind
def d8{d:LD} : oR s x d-oR s y d=s*dw d.prs λj=>x j-y j:=by
 unfold oR;rw[Ds]
 grind
structure hF(s:Rat)(m:Nat)(t:xk)(x v:Nat->Rat):Prop where
 no:∀k,k<m->t.getD k []=[]->v k=0
 some:∀k,k<m->t.getD k []≠[]->∃d∈t.getD k [],v k=oR s x d
 le:∀k,k<m->∀d∈t.getD k [],oR s x d<=v k
structure Gn(m:Nat)(t:xk)(x v:Nat->Rat)(g h:Rat):Prop where
 lo:∀k,k<m->x k+g<=v k
 hi:∀k,k<m->v k<=x k+h
 nog:(∃k,k<m/\t.getD k []=[])->g<=0
 noh:(∃k,k<m/\t.getD k []=[])->0<=h
def lH{t:xk}(hd:DSk m X t){d:LD}(h:d∈t.getD k []):LDk m d:=by
 by_cases c:k<t.length
 .rw[au,aj c]at h;exact hd.ok _ (aU c) d h
 .rw[au,aM (VS c)]at h;cases h
def S_{g:Rat}(a:s<1):a8 s g=s*g+s*a8 s g:=by
 unfold a8;have:(1-s)≠0:=λz=>by grind
 grind
def D7{g:Rat}(b:0<=s)(c:s<1)(h:g<=0):a8 s g<=0/\0<=a8 s (-g):=by
 have p:0<1-s:=by grind
 have q:0<=s/(1-s):=by
  rw[div_def];exact Q3 b (Th (Rat.inv_pos.mpr p))
 have a:=Q3 q (show 0 <= -g by grind);unfold a8;exact⟨by grind,a⟩
section
variable{s:Rat}{m X:Nat}{t:xk}{x v y:Nat->Rat}{g h:Rat}
def WN(o:Shr s)(hd:DSk m X t)(n:hF s m t x v)(l:hF s m t v v')(G:Gn m t x v g h):(∀k,k<m->v k+s*g<=v' k)/\∀k,k<m->v' k<=v k+s*h:=by
 have j:=o.lo;refine⟨λk f=>?_,λk f=>?_⟩<;>by_cases c:t.getD k []=[]
 .rw[n.no k f c,l.no k f c];have:=Q3 j (show 0 <= -g by have:=G.nog ⟨k,f,c⟩;grind)
  grind
 .obtain⟨d,i,e⟩:=n.some k f c;have ld:=lH hd i;have a:=Ge ld j G.lo;rw[rG ld]at a;have b:=l.le k f d i
  grind
 .rw[n.no k f c,l.no k f c];have:=Q3 j (G.noh ⟨k,f,c⟩)
  grind
 .obtain⟨d,i,e⟩:=l.some k f c;have ld:=lH hd i;have a:=Ge ld j G.hi;rw[rG ld]at a;have b:=n.le k f d i
  grind
def Vg(i:Shr s)(hd:DSk m X t)(n:hF s m t x v)(G:Gn m t x v g h)(o:∀k,k<m->(t.getD k []=[]/\y k=0)\/∃d∈t.getD k [],v k=oR s x d/\oR s y d<=y k):∀k,k<m->v k+a8 s g<=y k:=λk f=>by
 have j:=i.lo;have:=Y5 (x:=λk=>v k+a8 s g-y k) j i.hi (λk f=>?_) k f
 .grind
 .rcases o k f with⟨c,e⟩|⟨d,p,e,l⟩
  .refine⟨[],⟨λ_ z=>(nomatch z),λ_ z=>(nomatch z),by show(0:Rat)<=1;decide⟩,?_⟩;show v k+a8 s g-y k<=s*0;rw[n.no k f c,e];have:=(D7 j i.hi (G.nog ⟨k,f,c⟩)).1
   grind
  .have ld:=lH hd p;refine⟨d.prs,ld.sh,?_⟩;rw[<- d8,rG ld];have a:=Ge ld j G.lo;rw[rG ld]at a;have b:=S_ (g:=g) i.hi;show v k+a8 s g-y k<=_
   grind
def XB(j:Shr s)(hd:DSk m X t)(n:hF s m t x v)(G:Gn m t x v g h)(p:∀k,k<m->(t.getD k []=[]/\y k=0)\/∃d∈t.getD k [],y k=oR s y d):∀k,k<m->y k<=v k+a8 s h:=λk i=>by
 have l:=j.lo;have:=Y5 (x:=λk=>y k-(v k+a8 s h)) l j.hi (λk i=>?_) k i
 .grind
 .rcases p k i with⟨c,e⟩|⟨d,o,e⟩
  .refine⟨[],⟨λ_ z=>(nomatch z),λ_ z=>(nomatch z),by show(0:Rat)<=1;decide⟩,?_⟩;show y k-(v k+a8 s h)<=s*0;rw[n.no k i c,e];have q:=G.noh ⟨k,i,c⟩;have:=(D7 (g:=-h) l j.hi (by grind)).2;rw[Rat.neg_neg]at this
   grind
  .have ld:=lH hd o;refine⟨d.prs,ld.sh,?_⟩;rw[<- d8,rG ld];have a:=Ge ld l G.hi;rw[rG ld]at a;have b:=n.le k i d o;have f:=S_ (g:=h) j.hi;show y k-(v k+a8 s h)<=_
   grind
def gV{d c:Rat}(f:Shr s)(hd:DSk m X t)(z:hF s m t x v)(y:hF s m t v v')(G:Gn m t x v g h)(o:Gn m t v v' d c)(mg:∃k,k<m/\d=v' k-v k)(A:∃k,k<m/\c=v' k-v k):(∀k,k<m->v k+a8 s g<=v' k+a8 s d)/\(∀k,k<m->v' k+a8 s c<=v k+a8 s h)/\a8 s c-a8 s d<=s*(a8 s h-a8 s g):=by
 obtain⟨a,b⟩:=WN f hd z y G;obtain⟨i,C,L⟩:=mg;obtain⟨j,B,K⟩:=A;have J:=a i C;have I:=b j B;have E:s*g<=d:=by grind
 have D:c<=s*h:=by grind
 have w:=f.lo;have n:=f.hi;have p:0<1-s:=by grind
 have q:0<=s/(1-s):=by
  rw[div_def];exact Q3 w (Th (Rat.inv_pos.mpr p))
 have e:=UH E q;have q2:=UH D q;have H:=S_ (g:=g) n;have F:=S_ (g:=h) n;have u:s/(1-s)*(s*g)=s*a8 s g:=by unfold a8;grind
 have r:s/(1-s)*(s*h)=s*a8 s h:=by unfold a8;grind
 rw[u]at e;rw[r]at q2;have e:s*a8 s g<=a8 s d:=e;have q2:a8 s c<=s*a8 s h:=q2;refine⟨λk l=>?_,λk l=>?_,by grind⟩
 .have:=o.lo k l
  grind
 .have:=o.hi k l
  grind
end
abbrev dy(A:xz):Prop:=∀y∈A,Rz 1000 800 y
def uJ:ST:=λa q=>∃(m:Nat)(M A:xz),a=[bp M,bp A]/\M.length=m/\A.length=m/\m<=100/\dy M/\dy A/\(∀k,k<m->M.getD k 0<=A.getD k 0)/\q (.fz (.bl true))
def Np(F:Fun K lD lD q_ f G)(T:Txt K mg D)(u:ag P w K mg base 1 yX uY Ho):bW P w K mg base ab 2 f G jg (am K uJ):=by
 refine F.okT O9 (λ_ _=>bH (bN (Kq (bY (SB rfl) T.al7 boot_any (bx (c7 (bG q_) vG vG ["_law_one","_law_high"] (Ah T.I9 (bx wn (bx we bC))) (fK (n:=2) (bT (d_ (i:=0)) (bT (d_ (i:=1)) dN))) cC (bI u (bx we (bx wn bC)))) bC))))) ?_;rintro _ R ⟨m,M,A,rfl,h,x,v,j,o,le,q⟩;show(xX (M.map aa) (A.map aa)).length<=sizeLine/\iI _ _ _ _ (xX (M.map aa) (A.map aa)) _;rw[Ao];refine⟨by rw[ak,VZ];exact aL (show _<=1000 by lia) wf,comp_map (λp:Rat×Rat=>.tup [aa p.1,aa p.2]) (λ_=>.bl false) (M.zip A) (λp r N a y=>?_) ⟨(M.zip A).map λ_=>false,by rw[WJ];rfl,?_⟩⟩
 .obtain⟨k,t⟩:=aV r;obtain⟨c,d⟩:=List.getElem?_zip_eq_some.mp t;have s:k<m:=by rw[<- h];exact(ao.mp c).1
  have g:=(j _ (aC c)).bq wf wf;have e:=(o _ (aC d)).bq wf wf;have l:=le k s;rw[au,au,c,d]at l;have l:p.1<=p.2:=l;have B:=p.1.den_pos;have z:=p.2.den_pos;refine⟨rfl,_,_,_,_,rfl,by lia,by lia,⟨e.1,e.2,g.1,g.2⟩,?_⟩;rwa[rd,rd,Zp (Rat.not_lt.mpr l)]
 .rw[show true = !(((M.zip A).map λ_=>false).any λb=>b)by simp]at q;exact q
def ej(a b:Rat):Int×Int:=(a.num*b.den-b.num*a.den,a.den*b.den)
abbrev iF(p:Β):L2.T:=pT p.1 p.2
def fv(a b:Rat):divInt (ej a b).1 (ej a b).2=a-b:=by
 have h:a-b=divInt a.num a.den-divInt b.num b.den:=by rw[rd,rd]
 rw[h,Rat.divInt_sub_divInt _ _ (lC a) (lC b)]
 rfl
def ow{b:Rat}(d:Rz 1000 800 a)(c:Rz 1000 800 b):0<(ej a b).2/\(ej a b).1.natAbs<=10^1801/\(ej a b).2.natAbs<=10^1600:=by
 have f:=a.den_pos;have e:=b.den_pos;refine⟨XZ wp wp,?_,?_⟩
 .have x:=Int.natAbs_sub_le (a.num*b.den) (b.num*a.den);have y:(a.num*b.den).natAbs<=10^1800:=by rw[VW,X0,show 10^1800=10^1000*10^800 by rw[<- UY]];exact W1 d.1 c.2
  have z:(b.num*a.den).natAbs<=10^1800:=by rw[VW,X0,show 10^1800=10^1000*10^800 by rw[<- UY]];exact W1 c.1 d.2
  rw[show 10^1801=10^1800*10 from pow_succ ..];show(a.num*b.den-b.num*a.den).natAbs<=_;omega
 .show((a.den:Int)*b.den).natAbs<=_;rw[VW,X0,X0,show 10^1600=10^800*10^800 by rw[<- UY]];exact W1 d.2 c.2
def Rg:ST:=λc q=>∃a b:Rat,c=[aa a,aa b]/\Rz 1000 800 a/\Rz 1000 800 b/\q (.fz (iF (ej a b)))
def W'(F:Fun K D_ D_ Yg f G):bW P w K mg base ab 1 f G Bj (am K Rg):=by
 refine F.okT _P (λ_ _=>bH (bN (dh (bx (bL qy (bL cQ (bJ wn bA) (bJ we bA)) (bL cQ (bJ we bA) (bJ wn bA))) (bx (bL cQ (bJ wn bA) (bJ we bA)) bC))))) ?_;rintro _ R ⟨a,b,rfl,g,e,q⟩;have d:=g.bq wf wf;have c:=e.bq wf wf;exact⟨⟨d.1,c.2⟩,⟨c.1,d.2⟩,⟨d.2,c.2⟩,q⟩
def Vy:ST:=λa q=>∃(c:Rat)(F:Γ),a=[.lst (F.map iF)]/\F.length<=100/\(∀p∈F,0<p.2/\Bd p.1/\Bd p.2/\divInt p.1 p.2=c)/\q (.fz (.bl true))
def adD(F:Fun K Gy Gy JT f G)(T:Txt K mg D)(s:ag P w K mg base 1 J6 Gg Wo):bW P w K mg base ab 2 f G zQ (am K Vy):=by
 refine F.okT _T (λ_ _=>bH (bN (bY (Xf rfl) T.ad3 boot_all (bx (c7 (bG JT) SJ SJ ["_law_one"] (cI wn) (d_ (i:=0)) cC (bI s (bx wn (bx (bJ we bA) bC)))) bC)))) ?_;rintro _ R ⟨c,F,rfl,a,h,q⟩;refine⟨by rw[ak];exact aL a wf,comp_map iF (λ_=>.bl true) F (λp d N M t=>?_) ⟨F.map λ_=>true,by rw[WJ];rfl,?_⟩⟩
 .cases F with
  |nil=>cases d
  |cons e F =>
   obtain⟨r,o,n,m⟩:=h p d;obtain⟨l,k,j,g⟩:=h e (aO ..);refine⟨_,rfl,_,_,_,_,rfl,r,l,⟨o,n,k,j⟩,?_⟩;rwa[m,g,Zs rfl]
 .rw[show true=((F.map λ_=>true).all λb=>b)by simp]at q;exact q
def Pr:ST:=λd q=>∃(s:Rat)(m:Nat)(lo a b c:xz),d=[aa s,.tup [bp lo,bp a],.tup [bp b,bp c]]/\Shr s/\0<m/\m<=100/\(lo.length=m/\a.length=m/\b.length=m/\c.length=m)/\(dy lo/\dy a/\dy b/\dy c)/\(∀k,k<m->lo.getD k 0<=b.getD k 0)/\(∀k,k<m->c.getD k 0<=a.getD k 0)/\c.getD 0 0-b.getD 0 0<=s*(a.getD 0 0-lo.getD 0 0)/\q (.fz (.bl true))
def abD(F:Fun K BW BW Lz f G)(T:Txt K mg D)(I:ag P w K mg base 2 lD jg uJ)(A:ag P w K mg base 1 D_ Bj Rg)(BP:ag P w K mg base 1 yX uY Ho):bW P w K mg base ab 3 f G uX (am K Pr):=by
 refine F.okT aa4 (λ_ _=>bF (cG (QW.qt (g8 (cY (cN (bI I (bx (bJ we bA) (bx (bJ wa bA) bC))))) (eX (cY (cN (bI I (bx (bJ wa bA) (bx (bJ we bA) bC))))))))
  (bH (bN mV))
  bQ)
  (bF (bO 3 (bI A (bx (bJ (bJ we bA) bA) (bx (bJ (bJ we bA) bA) bC))))
  (bH (bN (Kq (bI BP (bx (dh (bx (bL cQ (bJ wP bA) (bJ wn bA)) (bx (bL cQ (bJ wP bA) (bJ wn bA)) bC))) (bx (bI A (bx (bJ (bJ wa bA) bA) (bx (bJ (bJ wa bA) bA) bC))) bC)))))))) ?_
 rintro _ R ⟨s,m,lo,E,H,J,rfl,X,m0,C,⟨W,V,U,S⟩,⟨O,N,M,L⟩,Z,Y,n,q⟩;obtain⟨a,u⟩ : ∃a,lo[0]?=some a:=⟨_,aj wp⟩;obtain⟨b,t⟩ : ∃a,E[0]?=some a:=⟨_,aj wp⟩;obtain⟨c,p⟩ : ∃a,H[0]?=some a:=⟨_,aj wp⟩;obtain⟨d,o⟩ : ∃a,J[0]?=some a:=⟨_,aj wp⟩;rw[au,au,au,au,u,t,p,o]at n;have n:d-c<=s*(b-a):=n;have z:=O _ (aC u);have y:=N _ (aC t);have x:=M _ (aC p);have v:=L _ (aC o);have g:∀{l:xz}{r:Rat},l[0]?=some r->ca (l.map aa) 0=some (aa r):=λe=>jw (k:=0) e;have ld:=ow y z;have j:=ow v x;have sz:=Gu X;have B:=sz.bq wf wf;have Q:(0:Int)<s.den:=by have:=s.den_pos;lia
 have i:((ej b a).1*s.num).natAbs<=10^1803:=by
  rw[VW,show 10^1803=10^1801*10^2 by rw[<- UY]];exact W1 ld.2.1 sz.1
 have h:((ej b a).2*s.den).natAbs<=10^1602:=by
  rw[VW,X0,show 10^1602=10^1600*10^2 by rw[<- UY]];exact W1 ld.2.2 sz.2
 refine⟨m,lo,H,rfl,W,U,C,O,M,Z,m,J,E,rfl,S,V,C,L,N,Y,_,g t,_,g u,b,a,rfl,y,z,?_⟩;refine⟨⟨uh ld.2.1 wf,B.1⟩,⟨uh ld.2.2 wf,B.2⟩,_,g o,_,g p,d,c,rfl,v,x,_,_,_,_,rfl,XZ ld.1 Q,j.1,⟨uh i wf,uh h wf,uh j.2.1 wf,uh j.2.2 wf⟩,?_⟩;rw[<- kh,fv,fv,rd,Zp (Rat.not_lt.mpr (by rwa[XT]))];exact q
def Qk(D:a'):ST:=λe q=>∃(s:Rat)(d:Φ)(l:zD)(m n N:Nat)(A J lo a:xz),e=[bu D s d l,.int (n:Nat),.tup [bp lo,bp a],bp A,bp J]/\yc d l/\l.length=m/\m<=100/\1<=n/\n<=40/\hA s l n/\fF s l N/\(A.length=m/\J.length=m/\lo.length=m/\a.length=m)/\(dy A/\dy J/\dy lo/\dy a) /\
 (∀k,k<m->lo.getD k 0<=A.getD k 0)/\(∀k,k<m->A.getD k 0<=a.getD k 0)/\(∃c,∀k,k<m->a.getD k 0-lo.getD k 0=c)/\(∃c,∀k,k<m->a.getD k 0-J.getD k 0=c) /\
 (∀(L:wv)(b:xz)(C:zS)(M:xz),RdL s l L->L[n-1]?=some b->gl s l b (sJ l) C->lB s l C M->dy M/\(∀k,k<m->lo.getD k 0<=M.getD k 0)/\∀k,k<m->M.getD k 0<=A.getD k 0)/\q (.fz (.bl true))
theorem aaG(F:Fun K Bu Bu zM f G)(T:Txt K mg D)(fH:ag P w K mg base 3 lO jm uo)(V:ag P w K mg base 2 lD jg uJ)(J8:ag P w K mg base 2 Gy zQ Vy)(yI:ag P w K mg base 1 D_ Bj Rg)(mX:ag P w K mg base 9 n_ jW (vP D))(vX:hE P w K mg base (fi K D) 9 pH lZ (CJ D)):bW P w K mg base ab 10 f G u_ (gs K (fi K D) 0 (Qk D)):=by
 refine F.okG 0 R6 aaN (λts R hP=>by obtain⟨_,_,_,_,_,_,_,_,_,_,e,_⟩:=hP;exact e ▸ rfl) λae j Z s0 H E hr=>?_;have nd:=aaN.nd;refine⟨_,(bF (Q5 wa (fK (n:=2) (bT (cB (n:=99) 7) (bT (cB (n:=99) 8) dN))))
  (bF (bO 5 (bY eG T.gk VY (bx wP bC)))
  (bF (cG (QW.qt (g8 (cY (cN (bI fH (bx (qv 7) (bx (qv 5) bC))))) (eX (cY (cN (bI fH (bx (qv 8) (bx (qv 5) bC))))))))
  (bH (bN mV))
  bQ)
  (bF (cG (QW.qt (g8 (cY (cN (bI V (bx (qv 7) (bx wP bC))))) (eX (cY (cN (bI V (bx wP (bx (qv 8) bC))))))))
  (bH (bN mV))
  bQ)
  (bF (cG (cY (cN (bI J8 (bx (c7 (bG zM) yt yt ["_law_high","_law_low"] (Ah T.I9 (bx (qv 8) (bx (qv 7) bC))) (fK (n:=2) (bT (d_ (i:=0)) (bT (d_ (i:=1)) dN))) cC (bI yI (bx wn (bx we bC)))) bC))))
  (bH (bN mV))
  bQ)
  (bF (cG (cY (cN (bI J8 (bx (c7 (bG zM) yt yt ["_law_high","_law_one"] (Ah T.I9 (bx (qv 8) (bx wE bC))) (fK (n:=2) (bT (d_ (i:=0)) (bT (d_ (i:=1)) dN))) cC (bI yI (bx wn (bx we bC)))) bC))))
  (bH (bN mV))
  bQ)
  (bF (bO 6 (bI mX (bx (iq 0) (bx (zL 0 vX hr.md (by rfl) (bx we bC)) bC))))
  (bF (cG (cY (cN (bI fH (bx (qv 6) (bx (qv 5) bC)))))
  (bH (bN mV))
  bQ)
  (bH (bN (Le (bI V (bx (qv 7) (bx (qv 6) bC))) (K5 (bI V (bx (qv 6) (bx wP bC))))))))))))))),?_⟩
 rintro _ t R et ⟨s,d,l,m,n,N,A,J,lo,o,rfl,h,ol,x,n1,ir,rb,B,⟨U,l2,S,z⟩,⟨b1,b2,W,O⟩,h1,h2,⟨c,hc⟩,⟨c',du⟩,hw,q⟩;cases et;have lm:(A.map aa).length=m:=by rw[ak,U]
 have Y:∀a:xz,[bp a,L2.T.int (((A.map aa).length:Nat):Int)]=[bp a,.int (m:Nat)]:=λa=>by rw[lm]
 have al:∀(r u:xz)(c:Rat),r.length=m->u.length=m->dy r->dy u->(∀k,k<m->r.getD k 0-u.getD k 0=c)->∀p∈(r.zip u).map λp=>ej p.1 p.2,0<p.2/\Bd p.1/\Bd p.2/\divInt p.1 p.2=c:=λr u c la lb ha hb e p v=>by
  obtain⟨p,hz,rfl⟩:=YV.mp v;obtain⟨k,ek⟩:=aV hz;obtain⟨I,e2⟩:=List.getElem?_zip_eq_some.mp ek;have hk:k<m:=by rw[<- la];exact(ao.mp I).1
  have b:=ow (ha _ (aC I)) (hb _ (aC e2));have a:=e k hk;rw[au,au,I,e2]at a;exact⟨b.1,uh b.2.1 wf,uh b.2.2 wf,(fv _ _).trans a⟩
 have zl:∀r u:xz,r.length=m->((r.zip u).map λp=>ej p.1 p.2).length<=100:=λr u la=>by rw[ak,VZ];lia
 have M:∀r u:xz,r.length=m->((r.zip u).map λp:Rat×Rat=>L2.T.tup [aa p.1,aa p.2]).length<=sizeLine:=λr u la=>by rw[ak,VZ];exact aL (show _<=100 by lia) wf
 refine⟨rfl,lo,m,Y lo,S,by exact aL x wf,o,m,Y o,z,by exact aL x wf,m,lo,A,rfl,S,U,x,W,b1,h1,m,A,o,rfl,U,z,x,b1,O,h2,?_⟩;show(xX (o.map aa) (lo.map aa)).length<=sizeLine/\iI _ _ _ _ (xX (o.map aa) (lo.map aa)) _;rw[Ao];refine⟨M o lo z,comp_map (λp:Rat×Rat=>.tup [aa p.1,aa p.2]) (λp=>iF (ej p.1 p.2)) (o.zip lo) (λp v N g hN=>⟨rfl,p.1,p.2,rfl,O _ (VX v).1,W _ (VX v).2,hN⟩) ⟨c,(o.zip lo).map λp=>ej p.1 p.2,by rw[WJ];rfl,zl o lo z,al o lo c z S O W hc,?_⟩⟩;show(xX (o.map aa) (J.map aa)).length<=sizeLine/\iI _ _ _ _ (xX (o.map aa) (J.map aa)) _;rw[Ao];refine⟨M o J z,comp_map (λp:Rat×Rat=>.tup [aa p.1,aa p.2]) (λp=>iF (ej p.1 p.2)) (o.zip J) (λp v N g hN=>⟨rfl,p.1,p.2,rfl,O _ (VX v).1,b2 _ (VX v).2,hN⟩) ⟨c',(o.zip J).map λp=>ej p.1 p.2,by rw[WJ];rfl,zl o J z,al o J c' z l2 O b2 du,?_⟩⟩;refine⟨rfl,s,d,l,n,rfl,h,n1,ir,rb,λL us C rd I v=>?_⟩;have X:=vo (Am l) v;refine⟨s,d,l,C,N,rfl,h,X,by exact aL (WG ol) x,B.wo C X,λy wo _=>?_⟩;have wz:=Wn B.sh X wo;obtain⟨z1,z2,z3⟩:=hw L us C _ rd I v wz;have ym:(range l.length).map (λi=>aa (y i))=((range l.length).map y).map aa:=by rw[WJ];rfl
 have mm:((range l.length).map y).length=m:=by rw[ak,WH,ol]
 dsimp only[frz];rw[ym];generalize(range l.length).map y=Q at *;exact⟨Q,m,Y Q,mm,by exact aL x wf,m,lo,Q,rfl,S,mm,x,W,z1,z2,m,Q,A,rfl,mm,U,x,z1,b1,z3,q⟩
section
variable{s:Rat}{m X:Nat}{t:xk}{l:zD}{A M:xz}
def NB(hd:DSk m X t)(e:nY t l)(h:k<m):∃(c:List LD)(b:Φ),t.getD k []=c/\t[k]?=some c/\b.length=c.length/\l[k]?=some ((b.zip c).map λp=>Tv p.1 p.2):=by
 have d:=aj (show k<t.length by rwa[hd.len]);have f:=aj (show k<l.length by rwa[e.len,hd.len]);obtain⟨b,a,g⟩:=e.at_ k _ _ d f;exact⟨_,b,by rw[au,d];rfl,d,a,by rw[f,g]⟩
def ja(hd:DSk m X t)(C:nY t l)(h:gj s l A M):hF s m t (λj=>A.getD j 0) (λj=>M.getD j 0):=by
 refine⟨λk f c=>?_,λk f c=>?_,λk f d b=>?_⟩<;>obtain⟨v,n,g,u,a,D⟩:=NB hd C f<;>obtain⟨y,x,w⟩:=h.top k _ D
 .rw[g]at c;subst c;exact y wr
 .rw[g]at c ⊢;obtain⟨o,b,e⟩:=x λz=>c (by
   have:=ZH List.length z;rw[ak,VZ,a,UV]at this;exact List.length_eq_zero_iff.mp this)
  obtain⟨p,B,rfl⟩:=YV.mp b;have q:=(VX B).2;exact⟨p.2,q,by rw[<- Kf (t:=p.1) (hd.ok v (aC u) _ q)];exact e⟩
 .rw[g]at b;obtain⟨i,r⟩:=aV b;have E:=(ao.mp r).1;have:=w (Tv (n[i]' wp) d) (YV.mpr ⟨(n[i]' wp,d),aC (List.getElem?_zip_eq_some.mpr ⟨aj wp,r⟩),rfl⟩);rw[Kf (hd.ok v (aC u) _ b)]at this;exact this
def ac4(w:Shr s)(hd:DSk m X t)(r:cu m t)(q:nY t l){e:Nat}(h:gj s l A M)(v:YsK e A):YsK (e+42) M:=by
 have n:=ja hd q h;have D:∀k,∃c:xC,k<m->M.getD k 0=match c.bind λd=>(t.getD k [])[d]? with|none=>0|some d=>oR s (λj=>A.getD j 0) d:=λk=>by
  by_cases g:k<m
  .by_cases c:t.getD k []=[]
   .exact⟨none,λ_=>n.no k g c⟩
   .obtain⟨d,x,e⟩:=n.some k g c;obtain⟨i,E⟩:=aV x;exact⟨some i,λ_=>by show _=match(t.getD k [])[i]? with|none=>0|some d=>oR s _ d;rw[E];exact e⟩
  .exact⟨none,λz=>absurd z g⟩
 obtain⟨f,y⟩:=Classical.axiomOfChoice D;have o:M.length=m:=by rw[h.len,q.len,hd.len]
 have B:M=HJ s m t ((range m).map f) A:=by
  refine TK (by rw[o];unfold HJ;rw[ak,WH]) λk p u=>?_;have g:k<m:=by exact aR p (WG o)
  have a:=y k g;have b:=abC (s:=s) (t:=t) (C:=(range m).map f) (A:=A) g;rw[au,aj p]at a;rw[au,aj u]at b;have a:M[k]=_:=a;have b:(HJ s m t ((range m).map f) A)[k]=_:=b;rw[a,b];unfold z8;rw[show((range m).map f).getD k none=f k by rw[au,aq,Up g];rfl]
  all_goals (cases((f k).bind λd=>(t.getD k [])[d]?)<;>rfl)
 rw[B];exact SY w hd r _ v
def adQ:YsK 0 (replicate m 0):=⟨⟨1,VU,aG _,λy a=>by rw[(XV.mp a).2];exact Qr 1⟩,λy a=>by rw[(XV.mp a).2];decide +kernel,λy a=>by rw[(XV.mp a).2];decide +kernel⟩
structure qf(m k:Nat)(t:xk)(A:xz):Prop where
 len:A.length=m
 k:YsK (42*k) A
 no:∀j,j<m->t.getD j []=[]->A.getD j 0=0
theorem Xr(f:Shr s)(hd:DSk m X t)(d:cu m t)(a:nY t l){L:wv}(h:RdL s l L):∀(k:Nat)(A:xz),L[k]?=some A->qf m k t A
 |0,A,e=>by
  rw[h.first,a.len,hd.len]at e;cases e;refine⟨aN,adQ,λj b _=>?_⟩;rw[au,X1,ZY b]
  rfl
 |k+1,M,e=>by
  have g:=aj (show k<L.length by have:=(ao.mp e).1;exact UU (X2 _) this);have n:=h.next k _ _ g e;exact⟨by rw[n.len,a.len,hd.len],ac4 f hd d a n (Xr f hd d a h k _ g).k,λj b c=>(ja hd a n).no j b c⟩
def YsK.z{e:Nat}(h:YsK e A){y:Rat}(a:y∈A):Rz (e+32) e y:=by
 obtain⟨L,c,b,f⟩:=h.cm;have d:=aL (UX c (f y a)) b;refine⟨aL (Hg (h.hi y a) (h.lo y a)) ?_,d⟩;rw[UY,JU];exact W1 d (aG _)
def HH(p:Shr s)(hd:DSk m X t)(B:m<=100)(f:nY t l){e:Nat}(g:e<=900)(a:A.length=m)(h:YsK e A):kv s l A:=by
 obtain⟨L,j,i,u⟩:=h.cm;have y:l.length=m:=by rw[f.len,hd.len]
 have d:b_ 1 A<=10^e:=aL (UX j (jE A (U1 _) u)) i;refine⟨by lia,λr c=>uh (h.z c).1 wp,uh (n:=e) (by rwa[X0]) (aL g wf),λw v o q=>ED (t:=e+32+e) (b:=e) p (Zn hd f w v o q) wf (aG _) wf (by unfold tops;rw[ak];exact a) (λx k=>?_) d wp (aL g wf)⟩;obtain⟨r,c,rfl⟩:=YV.mp k;rw[VW,X0,UY _ _ e];exact W1 (h.z c).1 (aL (Q1 _ _) d)
def VB(hd:DSk m X t)(a:kr t C)(j:k<m):(t.getD k []=[]/\∀y,z8 s y t C k=0)\/∃d∈t.getD k [],∀y,z8 s y t C k=oR s y d:=by
 have i:k<t.length:=by rwa[hd.len]
 have h:=aj i;have g:=aj (show k<C.length by rwa[a.len]);have c:=a.ok k _ _ g h;have f:t.getD k []=t[k]:=by rw[au,h];rfl
 have b:C.getD k none=C[k]'(by rwa[a.len]):=by rw[au,g];rfl
 cases e:C[k]'(by rwa[a.len])with
 |none =>
  rw[e]at c b;refine .inl ⟨by rw[f];exact List.length_eq_zero_iff.mp (of_decide_eq_true c),λy=>?_⟩;unfold z8;rw[b]
  rfl
 |some d =>
  rw[e]at c b;have ld:d<t[k].length:=of_decide_eq_true c;refine .inr ⟨t[k][d],by rw[f];exact aU ld,λy=>?_⟩;unfold z8;rw[b,f];show(match t[k][d]? with|none=>0|some d=>oR s y d)=_;rw[aj ld]
def EN(hd:DSk m X t)(a:nY t l)(c:cf l C)(h:lB s l C M)(d:k<m):M.getD k 0=z8 s (λj=>M.getD j 0) t C k:=by
 have b:k<l.length:=by rwa[a.len,hd.len]
 rw[h.2 k b,R3 hd a (by rwa[c.len])]
def g5(hd:DSk m X t)(g:nY t l)(h:gl s l A (sJ l) C)(n:gj s l A M)(K:k<m):M.getD k 0=z8 s (λj=>A.getD j 0) t C k:=by
 have w:=vo (Am l) h;have E:k<l.length:=by rwa[g.len,hd.len]
 have d:=aj E;obtain⟨u,q,p⟩:=n.top k _ d;rw[<- R3 hd g (by rwa[w.len])];have fk:(sJ l)[k]?=some (if 0<l[k].length then some 0 else none):=by unfold sJ;rw[aq,d];rfl
 by_cases c:0<l[k].length
 .rw[ZY c]at fk;obtain⟨b,H,v⟩:=h.some k 0 _ fk d;obtain⟨f,D⟩ : b<l[k].length/\∀r∈l[k].map (gZ s (tops (b_ 1 A) A) (b_ 1 A)),r<=(l[k].map (gZ s (tops (b_ 1 A) A) (b_ 1 A))).getD b 0:=by
   rcases v with⟨a,rfl⟩|⟨_,i,J,_⟩
   .exact⟨c,a⟩
   .rw[ak]at i;exact⟨i,J⟩
  have G:(l[k].map (gZ s (tops (b_ 1 A) A) (b_ 1 A))).getD b 0=gZ s (tops (b_ 1 A) A) (b_ 1 A) l[k][b]:=by rw[au,aq,aj f];rfl
  rw[C_ H];show _=oW s _ ((l.getD k [])[b]?);rw[au (l:=l),d];show _=oW s _ (l[k][b]?);rw[aj f];show _=JD s _ l[k][b];obtain⟨o,F,e⟩:=q λz=>by rw[z]at c;exact absurd c (Wp _)
  have x:=p l[k][b] (aU f);have y:=D _ (YV.mpr ⟨o,F,rfl⟩);rw[G,qJ,qJ]at y;have B0:=d9 A VU;have B:(0:Rat)<((b_ 1 A:Nat):Rat):=Rat.intCast_lt_intCast.mpr (show(0:Int)<(b_ 1 A:Nat)by lia);have y:=Rat.le_of_mul_le_mul_right y B;rw[<- e]at y;exact Rat.le_antisymm y x
 .rw[ZZ c]at fk;have I:l[k]=[]:=List.length_eq_zero_iff.mp wp;rw[u I,C_ (h.none k fk)];show(0:Rat)=0+s*0
  grind
def abH{a:xz}(i:a.length=m)(c:J.length=m):(∀k,k<m->J.getD k 0-a.getD k 0∈kZ a J)/\∀g∈kZ a J,∃k,k<m/\g=J.getD k 0-a.getD k 0:=by
 refine⟨λk j=>?_,λg e=>?_⟩
 .rw[au,au,aj (show k<J.length by lia),aj (show k<a.length by lia)];exact YV.mpr ⟨(J[k],a[k]),aC (List.getElem?_zip_eq_some.mpr ⟨aj wp,aj wp⟩),rfl⟩
 .obtain⟨p,d,rfl⟩:=YV.mp e;obtain⟨k,f⟩:=aV d;obtain⟨b,h⟩:=List.getElem?_zip_eq_some.mp f;exact⟨k,by have:=(ao.mp b).1;exact aR this (WG c),by rw[au,au,b,h];rfl⟩
structure BdK(s:Rat)(m:Nat)(t:xk)(us J lo hi:xz)(g h:Rat):Prop where
 lo:lo=J.map λv=>v+a8 s g
 hi:hi=J.map λv=>v+a8 s h
 gn:0<m->Gn m t (λj=>us.getD j 0) (λj=>J.getD j 0) g h/\(∃k,k<m/\g=J.getD k 0-us.getD k 0)/\(∃k,k<m/\h=J.getD k 0-us.getD k 0)
 sz:0<m->∀v∈J,Rz 1000 800 (v+a8 s g)/\Rz 1000 800 (v+a8 s h)
def oC(E:Shr s){f lo w:xz}(L:1<=n)(K:n<=5)(i:qf m (n-1) t f)(e:qf m n t J)(h:ia s f J lo w):∃g h,BdK s m t f J lo w g h:=by
 obtain⟨g,h,G,I,H⟩:=h;refine⟨g,h,I,H,λD=>?_,λD v l=>?_⟩<;>obtain⟨⟨mg,r⟩,o,q⟩:=G (λz=>by have:=e.len;rw[z]at this;exact absurd this.symm (by simp;lia))<;>obtain⟨j,x⟩:=abH i.len e.len
 .refine⟨⟨λk d=>?_,λk d=>?_,λ⟨k,d,c⟩=>?_,λ⟨k,d,c⟩=>?_⟩,x g mg,x h o⟩
  .have:=r _ (j k d);grind
  .have:=q _ (j k d);grind
  .have:=r _ (j k d);rw[i.no k d c,e.no k d c]at this
   grind
  .have:=q _ (j k d);rw[i.no k d c,e.no k d c]at this
   grind
 .have y:∀g∈kZ f J,Rz 1000 800 (v+a8 s g):=λg F=>by
   obtain⟨p,u,rfl⟩:=YV.mp F;have B:Rz 242 210 p.1:=(e.k.z (VX u).1).mono wp wp;have A:Rz 242 210 p.2:=(i.k.z (VX u).2).mono wp wp;have C:Rz 242 210 v:=(e.k.z l).mono wp wp;have a:Rz 453 420 (p.1-p.2):=by
    rw[sub_eq_add_neg];exact B.add (Rz.neg A) (k:=452) wf wf
   have b:Rz 457 424 (a8 s (p.1-p.2)):=((Z5 E).1.mul a).mono wf wf;exact(C.add b (k:=667) wf wf).mono wf wf
  exact⟨y g mg,y h o⟩
end
theorem To{l:zD}{a b:xz}(d:gj s l A a)(n:gj s l A b):a=b:=by
 refine TK (by rw[d.len,n.len]) λk t r=>?_;have p:=aj (show k<l.length by rwa[<- d.len]);obtain⟨m,j,i⟩:=d.top k _ p;obtain⟨h,g,f⟩:=n.top k _ p;rw[au,aj t]at m j i;rw[au,aj r]at h g f;generalize l[k]'(by rwa[<- d.len])=w at *;by_cases c:w=[]
 .exact(m c).trans (h c).symm
 .obtain⟨o,u,e⟩:=j c;obtain⟨q,z,v⟩:=g c;have x:=f o u;have y:=i q z;rw[<- e]at x;rw[<- v]at y;exact Rat.le_antisymm x y
theorem JR{s:Rat}{l:zD}{L e:wv}(g:RdL s l L)(f:RdL s l e):∀(k:Nat)(a b:xz),L[k]?=some a->e[k]?=some b->a=b
 |0,a,b,d,c=>by
  rw[g.first]at d;rw[f.first]at c;cases d;cases c
  rfl
 |k+1,a,b,d,c=>by
  have j:=aj (show k<L.length by have:=(ao.mp d).1;exact UU (X2 _) this);have i:=aj (show k<e.length by have:=(ao.mp c).1;exact UU (X2 _) this);have h:=g.next k _ _ j d;have m:=f.next k _ _ i c;rw[JR g f k _ _ j i]at h;exact To h m
def a_{t:Rat}(a:k<J.length):(J.map λv=>v+t).getD k 0=J.getD k 0+t:=by
 rw[au,au,aq,aj a];rfl
structure Mid(s:Rat)(m R N:Nat)(t:xk)(Y:Φ)(l:zD)(F:xL)(p:eR):Prop where
 hs:Shr s
 hd:DSk m 3 t
 m6:m<=6
 h:yc Y l
 ho:nY t l
 n1:1<=R
 n5:R<=5
 B:fF s l N
 ms:Zy s l ((2*l.length*N)^l.length) (sJ l) F
 el:F.getLast?=some p
structure Win(s:Rat)(m n:Nat)(l:zD)(A J lo hi:xz):Prop where
 l1:lo.length=m
 l2:hi.length=m
 b1:dy lo
 b2:dy hi
 h1:∀k,k<m->lo.getD k 0<=A.getD k 0
 h2:∀k,k<m->A.getD k 0<=hi.getD k 0
 c1:∃c,∀k,k<m->hi.getD k 0-lo.getD k 0=c
 c2:∃c,∀k,k<m->hi.getD k 0-J.getD k 0=c
 pl:∀(L:wv)(us:xz)(pl:zS)(M:xz),RdL s l L->L[n-1]?=some us->gl s l us (sJ l) pl->lB s l pl M->dy M/\(∀k,k<m->lo.getD k 0<=M.getD k 0)/\∀k,k<m->M.getD k 0<=A.getD k 0
section
variable{s:Rat}{m R N:Nat}{t:xk}{Y:Φ}{l:zD}{F:xL}{p:eR}
def Mid.hd4(M:Mid s m R N t Y l F p):DSk m 4 t:=⟨M.hd.len,λa h=>Nat.le_succ_of_le (M.hd.few a h),M.hd.ok⟩
def Mid.wz(a:Mid s m R N t Y l F p)(d:cf l C)(b:lB s l C M):dy M:=λy c=>((adB a.hs a.hd4 (.inl a.m6) a.ho d b).z c).mono wf wf
def Mid.last(M:Mid s m R N t Y l F p):cf l p.1/\lB s l p.1 p.2/\mi s m t p.2:=by
 obtain⟨b,a,_⟩:=M.ms.told.ok p (List.mem_of_getLast? M.el);exact⟨b,a,PD M.hd M.ho M.ms M.el⟩
def Mid.win(a:Mid s m R N t Y l F p)(rd:RdL s l L)(n1:1<=n)(n5:n<=5){i lo U:xz}(z:L[n-1]?=some i)(e2:L[n]?=some J)(hb:ia s i J lo U):Win s m n l p.2 J lo U:=by
 have hs:=a.hs;have hd:=a.hd;have ho:=a.ho;have X:=Xr hs hd (.inl a.m6) ho rd (n-1) i z;have Q:=Xr hs hd (.inl a.m6) ho rd n J e2;have x:=ja hd ho (rd.next (n-1) i J z (by rwa[show n-1+1=n by exact kl n1]));obtain⟨g,h,K⟩:=oC hs n1 n5 X Q hb;obtain⟨e3,e4,O,W⟩:=K;subst e3;subst e4;obtain⟨S,k2,D⟩:=a.last;have r:=Q.len;have ol:l.length=m:=by rw[ho.len,hd.len]
 have H:∀k,k<m->(J.map λv=>v+a8 s g).getD k 0=J.getD k 0+a8 s g:=λk b=>a_ wp;have I:∀k,k<m->(J.map λv=>v+a8 s h).getD k 0=J.getD k 0+a8 s h:=λk b=>a_ wp;have gN:∀{y:Nat->Rat},∀k,k<m->(∀d∈t.getD k [],oR s y d<=y k)->(t.getD k []=[]->y k=0)->(t.getD k []=[]/\y k=0)\/∃d∈t.getD k [],J.getD k 0=oR s (λj=>i.getD j 0) d/\oR s y d<=y k:=λ{y}k b h1 h0=>by
  by_cases c:t.getD k []=[]
  .exact .inl ⟨c,h0 c⟩
  .obtain⟨d,f,e⟩:=x.some k b c;exact .inr ⟨d,f,e,h1 d f⟩
 refine⟨by rw[ak,r],by rw[ak,r],λy G=>?_,λy G=>?_,λk b=>?_,λk b=>?_,⟨a8 s h-a8 s g,λk b=>by rw[H k b,I k b];grind⟩,⟨a8 s h,λk b=>by rw[I k b];grind⟩,λP A C M k6 e' T E=>?_⟩
 .obtain⟨v,q,rfl⟩:=YV.mp G;exact(W (by rw[<- r];exact List.length_pos_of_mem q) v q).1
 .obtain⟨v,q,rfl⟩:=YV.mp G;exact(W (by rw[<- r];exact List.length_pos_of_mem q) v q).2
 .rw[H k b];refine Vg (y:=λj=>p.2.getD j 0) hs hd x (O wp).1 (λk b=>gN (y:=λj=>p.2.getD j 0) k b (λd f=>?_) λc=>D.no k b c) k b;have Z:k<t.length:=by rwa[hd.len]
  have V:=aj Z;rw[au,V]at f;exact D.le k _ V d f
 .rw[I k b];refine XB (y:=λj=>p.2.getD j 0) hs hd x (O wp).1 (λk b=>?_) k b;have w:=EN hd ho S k2 b;rcases VB (s:=s) hd (Tf ho S) b with⟨c,e⟩|⟨d,f,e⟩
  .exact .inl ⟨c,by rw[w,e]⟩
  .exact .inr ⟨d,f,by rw[w,e]⟩
 .have u:=vo (Am l) T;obtain rfl:=JR k6 rd (n-1) _ _ e' z;refine⟨a.wz u E,λk b=>?_,acz hs.lo hs.hi (λds fg o f=>a.B.sh ds fg o f) hd ho (Tf ho u) E D⟩;rw[H k b];refine Vg (y:=λj=>M.getD j 0) hs hd x (O wp).1 (λk b=>?_) k b;have w:=EN hd ho u E b;have gr:=g5 hd ho T (rd.next (n-1) A J z (by rwa[show n-1+1=n by exact kl n1])) b;rcases VB (s:=s) hd (Tf ho u) b with⟨c,e⟩|⟨d,f,e⟩
  .exact .inl ⟨c,by rw[w,e]⟩
  .refine .inr ⟨d,f,by rw[gr,e],?_⟩;rw[e]at w;rw[<- w];exact VQ
def Mid.near(M:Mid s m R N t Y l F p)(rd:RdL s l L)(n1:1<=n)(n5:n+1<=5)(u:0<m){d j lo o q r:xz}(y:L[n-1]?=some d)(x:L[n]?=some J)(w:L[n+1]?=some j)(C:ia s d J lo o)(O:ia s J j q r):(∀k,k<m->lo.getD k 0<=q.getD k 0)/\(∀k,k<m->r.getD k 0<=o.getD k 0)/\r.getD 0 0-q.getD 0 0<=s*(o.getD 0 0-lo.getD 0 0):=by
 have hs:=M.hs;have hd:=M.hd;have ho:=M.ho;have z:=Xr hs hd (.inl M.m6) ho rd (n-1) d y;have e:=Xr hs hd (.inl M.m6) ho rd n J x;have v:=Xr hs hd (.inl M.m6) ho rd (n+1) j w;have A:=ja hd ho (rd.next (n-1) d J y (by rwa[show n-1+1=n by exact kl n1]));have f:=ja hd ho (rd.next n J j x w);obtain⟨g,h,K⟩:=oC hs n1 (aL (Xs _) n5) z e C;obtain⟨X,W,S⟩:=oC (n:=n+1) hs (Q4 _ _) n5 e v O;obtain⟨I,H,Q,_⟩:=K;obtain⟨E,D,P,_⟩:=S;subst I H E D;obtain⟨G,_,_⟩:=Q u;obtain⟨T,mg,B⟩:=P u;obtain⟨a,b,c⟩:=gV hs hd A f G T mg B;have V:=e.len;have U:=v.len;refine⟨λk i=>?_,λk i=>?_,?_⟩
 .rw[a_ wp,a_ wp];exact a k i
 .rw[a_ wp,a_ wp];exact b k i
 .rw[a_ wp,a_ wp,a_ wp,a_ wp]
  grind
end
def ib{X:Cx}{a b:RS}{T:TS}{D:Ends}(h:h5 (gm X (oO a b)) T D σ H):h5 (gm X a) (h5 (gm X b) T) D σ H:=sy h
theorem Z_{Q:Type}{R:Q->L2.T->Prop} : ∀{l:List Q}{b:List L2.T},j3 R l b->∀{k:Nat}{a:Q},l[k]?=some a->∃t,b[k]?=some t/\R a t
 |_,_,.nil,_,_,e=>by cases e
 |_,_,.cons r h,0,_,e=>by cases e;exact⟨_,rfl,r⟩
 |_,_,.cons r h,k+1,_,e=>Z_ h (k:=k) (by simpa using e)
def Ec{a:List L2.T}{t:L2.T}(e:a[k]?=some t):ca a (k:Nat)=some t:=by
 show dq a k=_;rw[qm];exact e
def mU(D:a')(d:xm)(m:Nat)(s:Rat)(t:xk)(Y:Φ)(l:zD)(b:L2.T)(R:Nat)(p:eR)(e c a:OT):xy:=[.fz (kG d),.fz (.int (m:Nat)),.fz (aa s),.fz (lv t),.fz (bu D s Y l),.fz b,.fz (.int (R:Nat)),.fz (bp p.2),e,c,a]
def OK(F:Fun K QZ QZ Wy f G)(T:Txt K mg D)(vU:ag P w K mg base 1 Gf BJ Sy)(Xu:ag P w K mg base 2 J_ Gx ee)(S8:ag P w K mg base 3 GD yS V2)(Uo:ag P w K mg base 5 Fe yp Uu)(X4:ag P w K mg base 9 JV GR (ZS D))(eE:ag P w K mg base 1 j5 jk oZ)(Hx:ag P w K mg base 11 xG rW (LR D))(nU:dL P w K mg base 8 dJ dI (BZ K D))(Ae:hE P w K mg base (fi K D) 9 qM nq (Er D))(fH:ag P w K mg base 3 lO jm uo)(KQ:hE P w K mg base (fi K D) 10 Bu u_ (Qk D))(Mq:ag P w K mg base 3 BW uX Pr):bW P w K mg base ab 12 f G Rm (Qt K D.T_best_rounds):=by
 have nd:=Xv.nd;refine F.ok Xv (λJ H Q E h=>?_) (λae q outer s0 H J Q E hr h=>?_)
 .obtain⟨_,_,rfl,_⟩:=h
  rfl
 obtain⟨a,d,rfl,hs,nl,_,hT,hQ⟩:=h;refine⟨_,(lY (bO 1 (bI Xu (bx (bI vU (bx wn (bx bA bC))) bC)))
  (lY (bO 2 (bI S8 (bx (bI vU (bx wn (bx bA bC))) (bx mV bC))))
  (lY (bO 3 (bI Uo (bx wn (bx bA (bx we (bx mV bC))))))
  (lY (bO 4 (bI X4 (bx (bI vU (bx wn (bx bA bC))) (bx wa (bx wP bC)))))
  (lY (bO 5 (bI eE (bx (bI vU (bx wn (bx bA bC))) (bx bA bC))))
  (lY (bO 6 (bL dg bA (bL cM (bJ (qv 5) bA) (bJ (eF (bx bA (bx bA (bx bA (bx bA bC))))) (bL cM (bJ (qv 5) bA) bA)))))
  (lY (bO 7 (bJ (bI Hx (bx wE bC)) bA))
  (lY (YC (i:=8) Xv.nd rfl (Or.inl rfl) (sH nU hr.md (by rfl) (f9 (pv 4) (f9 (pv 6) zW))))
  (bF (qK (bG Wy) pj ["_law_script","_law_size_here","_law_share_here","_law_rooms","_law_hall_here","_law_xs","_law_many","_law_best","_law_some","_law_told","?_law_k"] ["_law_k"] (Bg T.gF (bx bA (bx (bL dg (qv 6) bA) bC))) (d_ (i:=0)) cC (zL 5 Ae hr.md (by rfl) (bx wn bC)) (mC (i:=9) Xv.nd rfl (Or.inl rfl)))
  (bF (cG (QW.qt (g8 (cY (cN (bI fH (bx (qv 7) (bx we bC))))) (eX (cj (qG hr.units) (bY eG T.gk VY (bx (qv 8) bC)) (bL dg (qv 6) bA)))))
  (bH (bN mV))
  bQ)
  (bF (eV (Bg T.gF (bx bA (bx (bL dg (qv 6) bA) bC))) (cB (n:=99) 10)
  (bF (cG (QW.qt (g8 (cY (cN (bI fH (bx (bJ (qv 8) (qv 10)) (bx we bC))))) (eX (cY (cN (zL 4 KQ hr.md (by rfl) (bx (qv 10) (bx (bJ (qv 9) (bL qy (qv 10) bA)) (bx (qv 7) (bx (bJ (qv 8) (qv 10)) bC))))))))))
  (bH (bN mV))
  bQ)
  (bH (cG (QW.qt (Te (cj I_ (qv 10) bA) (Te (cj I_ we bA) (Rk (cY (cN (bI Mq (bx wa (bx (bJ (qv 9) (bL qy (qv 10) bA)) (bx (bJ (qv 9) (bL qy (qv 10) bA)) bC))))))))))
  (bH (bN mV))
  bQ))))
  (bH (bN mV))))))))))))),?_⟩
 refine ib (ib (ib (ib (ib (ib ?_)))));refine⟨λ_=>[],_,{ nx:=λo=>∃(s:Rat)(m R N:Nat)(t:xk)(Y:Φ)(l:zD)(F:xL)(p:eR)(xs:L2.T),o=mU D d m s t Y l xs R p .und .und .und/\Mid s m R N t Y l F p,rt:=λ_=>False },SR.start (.cons (.scr hs (HW d)) .nil) pj,?_,⟨?_,λ_ _ _ _ _ z=>z.elim,λ_ _ _ _ z=>z.elim,λ_ _ _ _ z=>z.elim,λ_ _ _ _ _ _ z=>z.elim⟩⟩
 .refine⟨d,0,rfl,by exact aL nl wf,_,rfl,λm U=>⟨d,2,rfl,by exact aL nl wf,_,rfl,λs hs=>⟨d,5,m,rfl,by exact aL nl wf,by exact aL U wf,λt hd=>?_⟩⟩⟩;dsimp only;rw[XE];refine⟨d,1,rfl,by exact aL nl wf,_,s,m,3,t,rfl,hs,hd,by exact aL U wf,by decide,λY l hn hok ho=>?_⟩;refine⟨d,3,rfl,by exact aL nl wf,_,2,rfl,by decide,?_⟩;generalize d.getD 3 0=c;obtain⟨j,oS,ed⟩:=Yj [2,3,3,5] L2.T.int (i:=yT c 1%4) (by have:=m_ c 1;exact Z3 _ wf) (by show yT c 1%4<4;exact YY _ wf);have d0:0<j/\j<=5:=by simp at oS;lia
  refine⟨_,fB (k:=0),_,fB (k:=1),by decide,_,ed,d0.1,?_⟩;obtain⟨R,em,n1,n5⟩ : ∃R:Nat,1+yT c 0%j=(R:Nat)/\1<=R/\R<=5:=by
   have:=Z3 (yT c 0) (show j≠0 by lia);have:=YY (yT c 0) d0.1;exact⟨(1+yT c 0%j).toNat,by lia,by lia,by lia⟩
  dsimp only[frz,AJ];rw[em];have hd4:DSk m 4 t:=⟨hd.len,λds h=>Nat.le_succ_of_le (hd.few ds h),hd.ok⟩;obtain⟨N,B⟩:=_O hs hd4 (.inl U) ho;exact⟨s,Y,l,N,rfl,hok,B,λF p hm el=>⟨s,m,R,N,t,Y,l,F,p,_,rfl,⟨hs,hd,U,hok,ho,n1,n5,B,hm,el⟩⟩⟩
 .rintro own H1 σ _ ⟨s,m,R,N,t,Y,l,F,p,xs,rfl,M⟩ S1 h1;have hT1:H1 D.T_best_rounds=some (.tbl #[]):=(cW (S1 _ _ (by rwa[Bt]))).2;obtain⟨u4,e4,r4⟩:=h1.get (i:=4) (t:=bu D s Y l) rfl;obtain⟨u6,e6,r6⟩:=h1.get (i:=6) (t:=.int (R:Nat)) rfl;cases r6;have toW:∀b u,(∀g,u≠HO.tbl g)->H1 b=some u->wo [D.T_best_rounds] H1 b=some u:=λb u n e=>(z_ λz=>by
   rw[YR.mp z,hT1]at e;cases e;exact n _ rfl).trans e
  have r4:=Rep.nt (λb u n e=>toW b u n (cW e).2) r4;have ol:l.length=m:=by rw[M.ho.len,M.hd.len]
  have sm:cu m t:=.inl M.m6;have mS:=@Xr s m 3 t l M.hs M.hd sm M.ho;have rb:∀n,n<=6->hA s l n:=λn hn L rd k A O e=>by
   have r:=mS rd k A e;exact HH M.hs M.hd (by have:=M.m6;exact aL this wf) M.ho wp r.len r.k
  have rv:∀n,n<=6->FB s l n:=λn hn L rd k A O e=>by
   have r:=mS rd k A e;exact⟨by rw[r.len,ol],λy hy=>(r.k.z hy).mono wp wp⟩
  refine⟨_,e4,_,e6,u4,R,s,Y,l,none,rfl,hT1,r4,M.h,by have:=M.n5;exact aL this wf,rb R (by have:=M.n5;exact aL this wf),λL H2 c v yl rd S2 fy _ n2=>?_⟩;have toH:∀b u,(∀g,u≠HO.tbl g)->H1 b=some u->H2 b=some u:=λb u n e=>(w5 (S2 b u (toW b u n e))).2;have i8:=n2.rep λb z=>z.elim;rw[show(λ_:Addr=>False)=Ow (λ_=>[])from funext λb=>propext ⟨False.elim,λhP=>by obtain⟨_,z⟩:=hP;exact(nomatch z)⟩,Bt]at i8;have h2:SR K (λ_=>[]) H2 (σ.set 8 (some v)) (mU D d m s t Y l xs R p (.fz (.lst (L.map bp))) .und .und):=by
   have l11:σ.length=11:=h1.len.symm;refine h1.leap toH (by rw[VT,l11];rfl) λi x I=>?_
   match i,I with
   |0,I|1,I|2,I|3,I|4,I|5,I|6,I|7,I=>cases I;exact .inr ⟨_,rfl,.inl ⟨rfl,by rw[UT wf]⟩⟩
   |8,I=>cases I;exact .inr ⟨_,rfl,.inr ⟨v,by rw[Tx wp],i8⟩⟩
   |9,I|10,I=>cases I;exact .inl rfl
  have h3:=h2.toGh (i:=4) (R6 (K:=K) (D:=D) (bu D s Y l)) rfl λu eu=>by
   rw[UT wf,e4]at eu;cases eu;rw[Bt];exact⟨c,fy,r4.same S2⟩
  refine⟨λ_=>[],_,{ nx:=λ_=>False,rt:=λx=>x=.fz (.bl true) },h3,?_,⟨λ_ _ _ _ z=>z.elim,?_,λ_ _ _ _ z=>z.elim,λ_ _ _ _ z=>z.elim,λ_ _ _ _ _ _ z=>z.elim⟩⟩
  .have U:=M.m6;have n5:=M.n5;have hnj:∀k,k<R->1<=k+1/\k+1<=40:=λk O=>by lia
   refine⟨⟨by decide,by decide,by lia,by lia⟩,?_,?_⟩
   .rw[rng,ak,WH];exact aL (show _<=40 by lia) wf
   show iI _ _ _ _ (rng 1 (((R:Int)+1)-1).toNat) _;rw[show(((R:Int)+1)-1).toNat=R by lia];refine Vl (λk:Nat=>L2.T.int ((1:Int)+k)) (λk g=>∃us J lo V:xz,g=.tup [bp lo,bp V]/\L[k]?=some us/\L[k+1]?=some J/\ia s us J lo V) (range R) (λk O N' M' hN=>?_) λts al=>?_
   .have O:=List.mem_range.mp O;refine⟨rfl,s,Y,l,k+1,?_,M.h,M.hs,by exact Q4 _ _,by lia,rb (k+1) wp,rv (k+1) wp,λkR us J lo V k6 Z X hb=>hN _ ⟨us,J,lo,V,rfl,?_,?_,hb⟩⟩
    .show[bu D s Y l,L2.T.int ((1:Int)+(k:Nat))]=[bu D s Y l,L2.T.int ((k+1:Nat):Int)];rw[show(1:Int)+(k:Nat)=((k+1:Nat):Int)by lia]
    .have ek:=aj (show k<L.length by lia);rw[ek,JR k6 rd k _ _ Z ek]
    .have ek:=aj (show k+1<L.length by lia);rw[ek,JR k6 rd (k+1) _ _ X ek]
   obtain⟨k1,k2,_⟩:=M.last;have C:p.2.length=m:=by rw[k2.1,ol]
   refine⟨p.2,m,rfl,C,by exact aL U wf,?_⟩;refine dz (show(!decide (((L.map bp).length:Int)=(R:Int)+1))=false by rw[Zs (by rw[ak,yl];rfl)];rfl) ?_;refine⟨⟨by decide,by decide,by lia,by lia⟩,?_⟩;show Ab _ _ _ (rng 1 (((R:Int)+1)-1).toNat) _;rw[show(((R:Int)+1)-1).toNat=R by lia];have at_:=λk(O:k<R)=>Z_ al (k:=k) (Up O);refine gK (λk:Nat=>L2.T.int ((1:Int)+k)) (range R) (λ_ o=>∃x,o=(mU D d m s t Y l xs R p (.fz (.lst (L.map bp))) (.fz (.lst ts)) x).set 4 (.gh (fi K D (bu D s Y l)) (bu D s Y l))) ⟨_,rfl⟩ ?_ ?_
   .rintro as k bs _ e ⟨x,rfl⟩;have O:k<R:=List.mem_range.mp (by rw[e];simp);obtain⟨g,et,us,J,lo,V,rfl,Z,X,hb⟩:=at_ k O;have W:=M.win rd (n:=k+1) (Q4 _ _) wp Z X hb;have c2:(1:Int)+(k:Nat)=((k+1:Nat):Int):=by lia
    have i1:ca (L.map bp) ((1:Int)+(k:Nat))=some (bp J):=by rw[c2];exact jw X
    have i2:ca ts ((1:Int)+(k:Nat)-1)=some (.tup [bp lo,bp V]):=by rw[show(1:Int)+(k:Nat)-1=(k:Nat)by lia];exact Ec et
    have mP:=mS rd (k+1) J X;have bv:dy J:=λy hy=>(mP.k.z hy).mono wp wp;refine⟨_,i1,J,m,rfl,mP.len,by exact aL U wf,rfl,_,i2,_,i1,s,Y,l,m,k+1,N,p.2,J,lo,V,?_,M.h,ol,by exact aL U wf,by exact Q4 _ _,by lia,rb (k+1) wp,M.B,⟨C,mP.len,W.l1,W.l2⟩,⟨M.wz k1 k2,bv,W.b1,W.b2⟩,W.h1,W.h2,W.c1,W.c2,W.pl,?_⟩
    .show[bu D s Y l,L2.T.int ((1:Int)+(k:Nat)),_,_,_]=[bu D s Y l,L2.T.int ((k+1:Nat):Int),_,_,_];rw[c2]
     rfl
    refine c4 (λh0=>c4 (λhm=>?_) λ_=>⟨_,rfl⟩) λ_=>⟨_,rfl⟩;have k0:1<=k:=by lia
    have m0:0<m:=by lia
    obtain⟨g,et0,us0,vs0,lo0,kD,rfl,f1,f2,hb0⟩:=at_ (k-1) (Nat.sub_lt_of_lt O);rw[show k-1+1=k by exact kl k0,Z]at f2;cases f2;have W0:=M.win rd (n:=k) k0 (aL (Y2 O) n5) f1 Z hb0;obtain⟨a,b,c⟩:=M.near rd k0 wp m0 f1 Z X hb0 hb;have i3:ca ts ((1:Int)+(k:Nat)-2)=some (.tup [bp lo0,bp kD]):=by rw[show(1:Int)+(k:Nat)-2=((k-1:Nat):Int)by lia];exact Ec et0
    exact⟨_,i3,_,i2,s,m,lo0,kD,lo,V,rfl,M.hs,m0,by exact aL U wf,⟨W0.l1,W0.l2,W.l1,W.l2⟩,⟨W0.b1,W0.b2,W.b1,W.b2⟩,a,b,c,_,rfl⟩
   .rintro _ ⟨x,rfl⟩;exact rfl
  .rintro S H3 v _ B rfl _ ⟨_,u,eu,ru⟩ _;cases eu;cases ru;exact hQ H3
end
def law_fn{l:PySem.W.OpenLaw}{w:World}{L:Addr}(T0:∃D:a',D.T_best_rounds=L/\Txt K mg D)(base:Heap)(hB:base.BuiltinsAt mg L)(f:Addr)(G:FuncData)(a:Fun K QZ QZ Wy f G) :
  bW l.prog w K mg base ab 12 f G Rm (Qt K L):=by
 obtain⟨D,rfl,T⟩:=T0;have nC:∀base:Heap,ag l.prog w K mg base 5 jq gQ (gY D):=λbase=>by
  have o {k:Nat}{n:Str}{b:Stmt}{F:Φ}{c:Sp} (h:cL K mg n b F) (g:∀f G,Fun K n n b f G->bW l.prog w K mg base ab k f G F c):dL l.prog w K mg base k n F c:=h.ok g;have i {X:eS}{k:Nat}{n m:Str}{b:Stmt}{F:Φ}{f:Addr}{c:Sp} (h:Ce K n m b F f) (g:∀G,Fun K n m b f G->bW l.prog w K mg base X k f G F c):OkI l.prog w K mg base X k f F c:=h.ok g;have d:=o T.Lg λ_ _ a=>Jh a T;have e:=o T.P_ λ_ _ a=>KZ a T;have Z:=o T.Zk λ_ _ a=>Uy a T d e;have u:=o T.acZ λ_ _ a=>ZM Z a;have v:=o T.aar λ_ _ a=>Wf Z a;have t:=o T.adV λ_ _ a=>Z2 Z a;have j:=o T.aap λ_ _ a=>Wb a;have p:=o T.Zj λ_ _ a=>WY a e;have q:=i T.Gp λ_ a=>G4 a T;have H:=i T.sS λ_ a=>Cy a T d q;have s:=i T.yR λ_ a=>Pq a T H;have z:=o T.CW λ_ _ a=>zu a T p Z;have E:=o T.Cz λ_ _ a=>Ar a T z u v;have y:=o T.DP λ_ _ a=>GJ a T j;have Bf:=o T.PX λ_ _ a=>Lx a T t;exact o T.T_ λ_ _ a=>Nv a T p E y Bf q s
 have o {k:Nat}{n:Str}{b:Stmt}{F:Φ}{c:Sp} (h:cL K mg n b F) (g:∀f G,Fun K n n b f G->bW l.prog w K mg base ab k f G F c):dL l.prog w K mg base k n F c:=h.ok g;have i {X:eS}{k:Nat}{n m:Str}{b:Stmt}{F:Φ}{f:Addr}{c:Sp} (h:Ce K n m b F f) (g:∀G,Fun K n m b f G->bW l.prog w K mg base X k f G F c):OkI l.prog w K mg base X k f F c:=h.ok g;have d:=o T.Lg λ_ _ a=>Jh a T;have e:=o T.P_ λ_ _ a=>KZ a T;have Z:=o T.Zk λ_ _ a=>Uy a T d e;have u:=o T.acZ λ_ _ a=>ZM Z a;have x:=o T.agO λ_ _ a=>acL Z a;have v:=o T.aar λ_ _ a=>Wf Z a;have t:=o T.adV λ_ _ a=>Z2 Z a;have j:=o T.aap λ_ _ a=>Wb a;have C:=o T.Xl λ_ _ a=>V1 a T d e;have p:=o T.Zj λ_ _ a=>WY a e;have A:=o T.abu λ_ _ a=>Yw a T;have Y:=o T.Ss λ_ _ a=>Om a A C;have eY:=o T.FP λ_ _ a=>Di a A;have iz:=o T.K_ λ_ _ a=>Ju a T C j;have Tq:=o T.f_total λ_ _ a=>ab5 a T p Z;have ug:=o T.Nx λ_ _ a=>M4 a T eY iz Tq;have uq:=o T.Ny λ_ _ a=>Lq a T u;have U:=i T.Td λ_ a=>TQ a T Y;have yC:=i T.Uc λ_ a=>QK a T U eY;have J:=i T.O8 λ_ a=>O_ a T U ug uq;have zJ:=i T.Q7 λ_ a=>RP a T Y iz x J;have Ai:=i T.Rh λ_ a=>Qu a T J;have yj:=i T.RV λ_ a=>Tg a T;have ur:=o T.OD λ_ _ a=>KD a T C j;have wQ:=o T.Uk λ_ _ a=>NK a T A;have qx:=o T.Jv λ_ _ a=>Hq a T yj;have yH:=o T.Wg λ_ _ a=>RX a T qx;have zR:=i T.QB λ_ a=>Ur a T ur wQ yH;have q:=i T.Gp λ_ a=>G4 a T;have H:=i T.sS λ_ a=>Cy a T d q;have s:=i T.yR λ_ a=>Pq a T H;have N:=o T.adS λ_ _ a=>aaW a e;have yQ:=o T.W2 λ_ _ a=>T9 a T N;have DX:=o T.XQ λ_ _ a=>Vt a T e N;have yh:=o T.WD λ_ _ a=>Ul a T yQ DX;have V:=o T.V4 λ_ _ a=>Ud a Z;have sV:=o T.MJ λ_ _ a=>Jz a Z;have xq:=o T.Qz λ_ _ a=>Oo a T;have P:=o T.ae8 λ_ _ a=>acK a yh;have zN:=o T.Wj λ_ _ a=>T3 a T P V t;have tK:=o T.Lr λ_ _ a=>Jp a T P V x;have Hu:=o T.aa8 λ_ _ a=>Yc a T p xq zN tK sV;have Dv:=o T.W8 λ_ _ a=>VH a T;have uD:=o T.Og λ_ _ a=>Nb a T;have zX:=o T.Vb λ_ _ a=>Ro a T;have Il:=o T.aaX λ_ _ a=>Xb a T;have zO:=o T.Wu λ_ _ a=>Sg a T;have uE:=o T.O4 λ_ _ a=>Mf a T Dv uD Hu zX Il zO;have uQ:=o T.Oa λ_ _ a=>Ln a T;have Yb:=o T.aiA λ_ _ a=>S4 a T d;have I:=o T.Tt λ_ _ a=>Oi a T Yb q s;have rY:=o T.Ng λ_ _ a=>Jt a T s;have Al:=o T.Vz λ_ _ a=>R5 a T uQ x v;have S:=o T.Wk λ_ _ a=>Q0 a T I rY Al uE;have z:=o T.CW λ_ _ a=>zu a T p Z;have y:=o T.DP λ_ _ a=>Vw a T j;have E:=o T.Cz λ_ _ a=>Ar a T z u v;have uF:=o T.NQ λ_ _ a=>Mr a T y j;have Q:=o T.acY λ_ _ a=>aaF a T I p E uF s;have Du:=o T.Xz λ_ _ a=>V_ a T I S Q;have O:=o T.ahN λ_ _ a=>TC a;have r:=o T.ach λ_ _ a=>aaI a T;have Qn:=o T.al0 λ_ _ a=>OZ a T;have B:=o T.adn λ_ _ a=>aaA a Qn;have zY:=o T.W5 λ_ _ a=>QV a T Qn;have fH:=o T.Tr λ_ _ a=>O7 a T zY;have J0:=o T.afG λ_ _ a=>acA a T r;have S8:=o T.agx λ_ _ a=>adX a T r B;have qA:=o T.akG λ_ _ a=>PV a T B;have Xu:=o T.ahQ λ_ _ a=>_j a T r;have YM:=o T.ajE λ_ _ a=>_N a T r B qA;have Uo:=o T.afi λ_ _ a=>_B a T O r YM;have R4:=o T.agG λ_ _ a=>_' a T yC J zJ Ai;have X4:=o T.ait λ_ _ a=>_b a T J0 R4 zR;have y:=o T.DP λ_ _ a=>GJ a T j;have QC:=o T.agn λ_ _ a=>adH a T j;have vC:=o T.TJ λ_ _ a=>Nr a T d;have Bf:=o T.PX λ_ _ a=>Lx a T t;have ig:=o T.Mz λ_ _ a=>Jj a T d;have T4:=o T.agi λ_ _ a=>adP a T x;have Bc:=o T.abG λ_ _ a=>Xw a T x t v;have R:dL l.prog w K mg base 8 dJ dI (BZ K D):=T.Od.ok λ_ _ _ a hc hC=>Ld a hc hC T hB nC vC q;have jj:=Xo R;have BP:=o T.afH λ_ _ a=>aaC a;have YS:=o T.ahS λ_ _ a=>_3 a;have j_:=o T.RK λ_ _ a=>O6 a T q s;have Hx:=o T.abm λ_ _ a=>Yd a T j_ Du;have Ae:=o T.Vn λ_ _ a=>RL a T ig jj T4 Bc QC y u;have vX:=o T.Rr λ_ _ a=>Oc a T ig jj j_ Q;have eU:=o T.R7 λ_ _ a=>Np a T BP;have M:=o T.aiE λ_ _ a=>W' a;have J8:=o T.afK λ_ _ a=>adD a T YS;have Mq:=o T.aeu λ_ _ a=>abD a T eU M BP;have KQ:=o T.ad4 λ_ _ a=>aaG a T fH eU J8 M S vX;exact OK a T O Xu S8 Uo X4 r Hx R Ae fH KQ Mq
end K56
end
open PySem PySem.W PyProof.Rows L2
set_option maxRecDepth 100000 in
set_option maxHeartbeats 0 in
theorem PySem.Challenge.cw_chancehall_k56_whole_bounds_holds : PySem.Challenge.rw_chancehall_k56_whole_bounds.Holds := by
 w_on
 refine holds_law H56.wsd λb=>?_;refine holds_open (q:=H56.qv) (loose:=[]) (XP:=XL H56.qv []) (YP:=InK H56.KHT) H56.left (InK.of H56.asK) InK.keeps H56.hX XL.keeps (by rfl) (by rfl) (by rfl) H56.hR (by rfl) b (by decide +kernel) ⟨rfl,rfl,rfl,rfl,rfl,by decide +kernel⟩ ?hw ?hc
 (case hw=>w_witness2)
 have a:PySem.Challenge.rw_chancehall_k56_whole_bounds=PySem.Challenge.rw_chancehall_k56_whole_bounds/\H56.KH=H56.KH:=by
  k_fill
  exact⟨rfl,rfl⟩
 clear a
 refine L2.ah8 (l:=PySem.Challenge.rw_chancehall_k56_whole_bounds) (k:=12) (x := "_law_script") 423 427 rfl rfl ⟨rfl,by decide,by decide⟩ (λw h Y=>L2.ado (K:=H56.KH w.params) (show(H56.KH w.params++[(423,L2.Once.fE)]).In h from Y) (by kernel_rfl)) (λw=>by kernel_rfl) (λw=>by kernel_rfl) ?F
 case F =>
  intro w e i h j G g;refine⟨K56.Wy,?_,λbase f d c F=>K56.law_fn ?T base c f d F⟩
  .exact ar
  case T =>
   refine⟨⟨526,547,566,585,602,687,135,136,509,516,544,563,582,599,644,651,672,684,423⟩,rfl,⟨gy,gy,gy,gy,gy,gy,gy,gy,q7,q7,qw,qw,hH,gx,bz,bz,bz,bz,bz,bz,iv,hH,gx,bz,bz,bz,bz,bz,bz,iv,hH,gx,bz,bz,bz,bz,bz,bz,iv,hH,gx,bz,bz,bz,bz,bz,bz,iv,hH,gx,bz,bz,bz,bz,bz,bz,iv,hH,gx,gx,gx,bz,bz,bz,bz,bz,bz,rf,f5,f5,f5,rf,f5,f5,f5,f5,f5,f5,f5,dV,dV,dV,dV,dV,dV,dV,dV,dV,dV,dV,dV,dV,dV,dV,ar,ar,ar,ar,ar,ar,ar,ar,ar,ar,ar,ar,ar,ar,ar,ar,ar,ar,ar,ar,ar,ar,ar,ar,ar,ar,ar,ar,ar,ar,ar,ar,ar,ar,ar,ar,ar,ar,ar,ar,ar,ar,ar,ar,ar,ar,ar,GE 2 λ_ _ _ _ _ _ _ _=>rfl,ar,ar,ar,ar,ar,ar,ar,ar,ar,ar,ar,ar,ar,ar,ar,ar,ar,ar,ar,ar,ar,ar,ar,ar,ar,ar,ar,ar,ar,ar,ar,ar,ar,ar,ar,ar⟩⟩
#print axioms PySem.Challenge.cw_chancehall_k56_whole_bounds_holds
