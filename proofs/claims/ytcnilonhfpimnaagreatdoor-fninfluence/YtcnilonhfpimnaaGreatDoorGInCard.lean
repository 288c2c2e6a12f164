import Derived.Test.YtcnilonhfpimnaaGreatDoorGInLaw
import Derived.Test.YtcnilonhfpimnaaGreatDoorGInFacts
import Derived.Test.YtcnilonhfpimnaaGreatDoorCards
import Derived.ProofKit
import Derived.OpenShut
import Derived.MakeChecks
import Derived.Deep.Slices
import Derived.Deep.Strs
import Derived.Test.YtcnilonhfpimnaaGreatDoorTie
import Derived.Deep.DeepHandedRow
import Derived.Lib.LaidTab
set_option linter.all false
set_option maxRecDepth 100000
open Go renaming Value.slice->Y,IntKind.i64->I,World->E,Value->ZB,TypeId->ZK,Proofs.Tryz.prog->Pg
open Option renaming none->Z,some->Q
open Bool renaming false->ZA,true->ZH
namespace Go.Proofs.YtcnilonhfpimnaaGreatDoor.Inc
open Go.ChangeShapes Go.WideShapes Go.ChangeAt RowKit Go.Deep Vp
abbrev wP:String:=Rows.fnInfluenceSpec.vars.headD default
def cells3:Pg.cellsOf 3=1:=by kernel_rfl
def Iv:Pg.cellsOf 234=5:=by kernel_rfl
def gRows:Pg.globalNamed wP=Q 0:=by kernel_rfl
def tRows:(Pg.globals[0]?).map (·.type)=Q 235:=by kernel_rfl
def tPow:(Pg.globals[2]?).map (·.type)=Q 301:=by kernel_rfl
def Gy:Pg.cellsOf 301=20:=by kernel_rfl
def Gz:Pg.cellsOf 258=1:=by kernel_rfl
def Ji:∀k:Nat,k<16->∃(s:DataW Unit) (L:List (DataW Unit)),Rows.laid_loop_example_kilndeed_impl_rows=.agg L/\L[k]?=Q (.agg [s,.lit (.int I (bW k)),.lit (.int I (dX k)),.lit (.int I (aX k)),.lit (.int I (bN k))]):=by intro k hk;rcases(show k=0\/k=1\/k=2\/k=3\/k=4\/k=5\/k=6\/k=7\/k=8\/k=9\/k=10\/k=11\/k=12\/k=13\/k=14\/k=15 by omega) with rfl|rfl|rfl|rfl|rfl|rfl|rfl|rfl|rfl|rfl|rfl|rfl|rfl|rfl|rfl|rfl;all_goals exact⟨_,_,rfl,rfl⟩
def iR {b:List ZB}{o j:Nat}{v:ZB}(f:j<5)(h:(((b.drop o).take 5).drop j).take 1=[v]):b[o+j]?=Q v:=by
 have h2:((((b.drop o).take 5).drop j).take 1)[0]?=Q v:=by rw[h];rfl
 simpa[TV,f] using h2
def yH {W:E}{enc:ZK × ZB->Unit}{sp:Nat->Bool}{u:Bool}{A:Nat}{b:Array ZB}{p:List MemPlace}(g:W.var? Pg wP=Q b)
  (ZS:DataW.trod enc Pg W 0 sp u A 235 b.toList=Q (Rows.laid_loop_example_kilndeed_impl_rows,p)):Tab W/\Tab2 W:=by
 obtain⟨xs,m,_,x,_,hn,r⟩:=DataW.trod_array Tryz.underlying235 ZS;rw[Iv] at r;have j:∀k:Nat,k<16->b.toList[k*5+1]?=Q (.int I (bW k))/\b.toList[k*5+2]?=Q (.int I (dX k))/\b.toList[k*5+3]?=Q (.int I (aX k))/\b.toList[k*5+4]?=Q (.int I (bN k)):=by
  intro k h;obtain⟨s,L,hL,t⟩:=Ji k h;rw[hL] at x;simp only[LK,DataW.agg.injEq] at x;have f:=r k h;rw[x.1,LR] at t;obtain⟨y,ZP,q⟩:=RF.1 t;rw[ZP] at f;obtain⟨i,n,_,C,_,_,l⟩:=DataW.trod_struct Tryz.underlying234 f;have hz:i.map (·.1)=[s,.lit (.int I (bW k)),.lit (.int I (dX k)),.lit (.int I (aX k)),.lit (.int I (bN k))]:=by rw[C] at q;simpa using q
  have h1:DataW.trod _ Pg W 0 _ _ n 3 ((((b.toList.drop (k*5)).take 5).drop 1).take (Pg.cellsOf 3))=i[1]?:=l 1 _ rfl;have h2:DataW.trod _ Pg W 0 _ _ n 3 ((((b.toList.drop (k*5)).take 5).drop 2).take (Pg.cellsOf 3))=i[2]?:=l 2 _ rfl;have ZT:DataW.trod _ Pg W 0 _ _ n 3 ((((b.toList.drop (k*5)).take 5).drop 3).take (Pg.cellsOf 3))=i[3]?:=l 3 _ rfl;have G:DataW.trod _ Pg W 0 _ _ n 3 ((((b.toList.drop (k*5)).take 5).drop 4).take (Pg.cellsOf 3))=i[4]?:=l 4 _ rfl;rw[cells3] at h1 h2 ZT G;match i,hz with
  |[y0,y1,y2,y3,y4],hz =>
   simp only[T7,VN,List.cons.injEq,and_true] at hz;obtain⟨z1,D,ZO,_⟩:=V8 OD (show DataW.trod _ Pg W 0 _ _ n 3 _=Q y1 from h1);obtain⟨z2,K,S,_⟩:=V8 OD (show DataW.trod _ Pg W 0 _ _ n 3 _=Q y2 from h2);obtain⟨z3,B,ZN,_⟩:=V8 OD (show DataW.trod _ Pg W 0 _ _ n 3 _=Q y3 from ZT);obtain⟨O,H,P,_⟩:=V8 OD (show DataW.trod _ Pg W 0 _ _ n 3 _=Q y4 from G);have ZQ:z1=bW k:=by have:=hz.2.1;rw[ZO] at this;simpa using this
   have R:z2=dX k:=by have:=hz.2.2.1;rw[S] at this;simpa using this
   have V:z3=aX k:=by have:=hz.2.2.2.1;rw[ZN] at this;simpa using this
   have M:O=bN k:=by have:=hz.2.2.2.2;rw[P] at this;simpa using this
   rw[ZQ] at D;rw[R] at K;rw[V] at B;rw[M] at H;exact⟨iR (by omega) D,iR (by omega) K,iR (by omega) B,iR (by omega) H⟩
 have o:0<W.heap.size:=by
  have ZR:=TZ gRows g 1;have:=(j 0 (by omega)).1;simp only[UR,IT,NS] at this;rw[this] at ZR;rcases OR 0 W.heap.size with z|z;{exact z};{simp[World.cell?,PL z] at ZR}
 refine⟨⟨o,λk h=>?_⟩,⟨o,λk h=>?_⟩⟩;{have c1:=TZ gRows g (k*5+1);have c2:=TZ gRows g (k*5+2);have f:=j k h;simp only[NS] at f;exact⟨c1.k f.1,c2.k f.2.1⟩};{have c3:=TZ gRows g (k*5+3);have c4:=TZ gRows g (k*5+4);have f:=j k h;simp only[NS] at f;exact⟨c3.k f.2.2.1,c4.k f.2.2.2⟩}
def Jj {W:E}{enc:ZK × ZB->Unit}{sp:Nat->Bool}{b:Bool}{f:Nat}{g:Array ZB}{p:List MemPlace}(i:W.var? Pg "internal/strconv.uint64pow10"=Q g)
  (h:DataW.trod enc Pg W 0 sp b f 301 g.toList=Q (Rows.laid_internal_strconv_uint64pow10,p)):Pow W:=by
 have e:=Lib.cells_of_tab (k:=.u64) (zs:=Lib.pow10Tab) Tryz.underlying301 YI Gz Gy h;show W.var? Pg _=Q _;rw[i,<-e]
def tables {W:E}(h:laidMetH Pg Rows.fnInfluenceRow.laid W):Tab W/\Tab2 W/\Pow W:=by rw[MakeChecks.laidMetH_plain _ _ _ (by kernel_rfl)] at h;obtain⟨ps,⟨g0,t0,cs0,f0,p0,q0,hg0,ht0,hv0,hd0,⟨g1,t1,cs1,f1,p1,q1,hg1,ht1,hv1,hd1,⟨g2,t2,cs2,f2,p2,q2,l,j,m,i,⟨g3,t3,cs3,f3,p3,q3,hg3,ht3,hv3,hd3,⟨g4,t4,cs4,f4,p4,q4,g,n,b,f,_,_⟩,_⟩,_⟩,_⟩,_⟩,_,_⟩:=h;obtain rfl:=IH (gPow.c.k l);obtain rfl:=IH (tPow.c.k j);obtain rfl:=IH (gRows.c.k g);obtain rfl:=IH (tRows.c.k n);exact⟨(yH b f).1,(yH b f).2,Jj m i⟩
def own:ownKnob Pg.godebug=Z:=by kernel_rfl
def laidOut:laidOutB Pg=ZH:=by kernel_rfl
def Iw:Pg.cellsOf 5=1:=by kernel_rfl
def qZ {H:Type}{enc:ZK × ZB->H}{W:E}{r:Nat}{v:ZB}{d:DataW H}{p:List MemPlace}(ZT:Value.okWide Pg W .any r 22 v)
  (h:DataW.Trod enc Pg W 0 (λ_=>ZH) ZH 22 v d p) :
  ∃a n j_,v=Y a n j_/\(n:Int)<=9223372036854775807/\n<=j_/\ByteSl W a n:=by
 obtain⟨a0,n0,c0,rfl⟩:=okWide_slice Q2 ZT;obtain⟨fuel,ZR⟩:=h;rcases open_slice1 Q2 Iw ZR with⟨j,_⟩|⟨a,len,j_,m,k,V,D,Pl,j,hb,A,K,y,_,g⟩
 {simp[Value.cells] at j;obtain⟨rfl,rfl,rfl⟩:=j;exact⟨Z,0,0,rfl,by omega,by omega,.inl rfl⟩}
 ·simp[Value.cells] at j;obtain⟨rfl,rfl,rfl⟩:=j;have t:m=c0:=by simpa using y
  subst t;have q:(n0:Int)<=9223372036854775807:=by unfold maxLen at K;omega
  refine⟨_,n0,m,rfl,q,A,?_⟩;by_cases hz:n0=0;{exact .inl hz}
  ·obtain⟨b,off,s⟩:=a;have l:s=Z:=by simpa[Addr.add] using World.cell?_spot (g 0 (by omega)).1
   subst l;refine .inr ⟨b,off,rfl,?_,λi hi=>?_⟩;{have:=World.block_lt_of_cell? W _ (g 0 (by omega)).1;simpa[Addr.add] using this}
   ·obtain⟨f,G⟩:=g i (by omega);obtain⟨z,x,_,B⟩:=V8 PO G;rw[add_plain] at f;simp at x;rw[x] at f;have ZS:0<=z/\z<256:=by
     have o:(decide (IntKind.u8.min<=z) && decide (z<=IntKind.u8.max))=ZH:=B;simp only[j6,nD] at o;have m0:IntKind.u8.min=0:=by decide
     have C:IntKind.u8.max=255:=by decide
     rw[m0,C] at o;omega
    obtain⟨u,rfl⟩:=p9 ZS.1;exact⟨u,by omega,f⟩
def GA (H:Type)(enc:ZK × ZB->H)(W:E)(z:Nat)(args:Array ZB)(G ZP:List (DataW H))(o:List MemPlace)
  (i:∀(j:Nat) t v,Tryz.f3.params[j]?=Q t->args[j]?=Q v->Value.okWide Pg W .any z t v)
  (ZQ:DataW.Whole enc Pg Tryz.f3.params.toList Rows.fnInfluenceSpec.vars ZA W args.toList G ZP o) (hL:laidMetH Pg Rows.fnInfluenceRow.laid W) :
  Calls Pg 3 args W λe ZT=>∃v,e=.returned v/\Rows.fnInfluenceSpec.post enc Pg Tryz.f3 ZA ZH ZA ZA W args v ZT:=by
 have s:=ZQ;obtain⟨p,q,K,X,rfl,hfz,hnd⟩:=ZQ;have B:DataW.TrodAll enc Pg W 0 (λ_=>ZH) ZH Tryz.f3.params.toList args.toList G p:=K;rw[Tryz.params3] at B i;obtain⟨ZR,vs0,d0,ds0,p0,q0,hargs,rfl,rfl,ZS,r0⟩:=trodAll_cons B;obtain⟨L,vs1,d1,ds1,V,q1,rfl,rfl,rfl,h1,r1⟩:=trodAll_cons r0;obtain⟨rfl,rfl,rfl⟩:=trodAll_nil r1;obtain rfl:args=#[ZR,L]:=by cases args;simp_all
 obtain⟨g,t,ZN,fuel,dg,pg,rfl,y,u,R,P,rfl⟩:=trodVars_one X;have l:=s.lt;obtain⟨a,n,j_,rfl,hn,ZL,S⟩:=qZ (i 0 22 ZR rfl rfl) ZS;obtain⟨b,m,A,rfl,hm,D,C⟩:=qZ (i 1 22 L rfl rfl) h1;obtain⟨ZM,ZO,T3⟩:=tables hL;refine(uc a n j_ b m A W ZL D S C ZM ZO T3).P λe ZT ⟨O,r⟩=>?_;subst O;refine⟨_,rfl,_,_,_,[],p0++(V++[]),MemPlace.row ⟨g,0,Z⟩ ZN.size++pg,s,?_,?_,?_,r.frame _,λh=>by cases h⟩;{exact trodAll_cons_mk (shut_bool PQ _) trodAll_mk0};{exact trodAll_cons_mk (Below.trod laidOut (by kernel_rfl) (OT (by kernel_rfl)) ZS r (λx f=>l x (by simp[f]))) (trodAll_cons_mk (Below.trod laidOut (by kernel_rfl) (OT (by kernel_rfl)) h1 r (λx f=>l x (by simp[f]))) trodAll_mk0)}
 ·have e:t=235:=by rw[IH (y.c.k gRows)] at u;exact IH (u.c.k tRows)
  subst e;have M:∀x∈pg,x.block<W.heap.size:=λx f=>l x (by simp[f]);exact trodVars_mk1 y u (Joins.var_stays y R r ly)
   (DataW.trod_stays (kids_book laidOut (by kernel_rfl)) (book_sized (by kernel_rfl)) (λh=>by cases h) ⟨OT (by kernel_rfl),book_self 235⟩ P (λx f=>r.same (M x f)) (λx f=>by simpa using M x f))
def put (b:Array ZB):Obj->Obj
 |.cells _ t frozen=>.cells b t frozen
 |o=>o
def firstCells:Array ZB:=(Go.Pinned.utf8FirstZ.map (λz:Nat=>Value.int .u8 (z:Int))).toArray
abbrev Jk:Array ZB:=#[Y Z 0 0,Y Z 0 0]
def u8 (x:List Int):Obj->Obj:=put (x.map (Value.int .u8)).toArray
def r (s:List UInt8)(a b c d:Int):List ZB:=[.string ⟨s.toArray⟩,.int I a,.int I b,.int I c,.int I d]
theorem lifted (os:Os)(b:os.Started)(H:Type)(enc:ZK × ZB->H)(F:Stop.Interp):ReturnsInHanded {} Tryz.checked os 3 .any ((OpenSpec.ofChange Rows.fnInfluenceSpec).preRow enc Pg Tryz.f3 Rows.fnInfluenceRow.domain ZA Rows.fnInfluenceRow.laid) (((OpenSpec.ofChange Rows.fnInfluenceSpec).at F).post enc Pg Tryz.f3 ZA ZH ZA ZA):=by
 refine returnsInHanded_of_row (C:=Tryz.checked) (s:=OpenSpec.ofChange Rows.fnInfluenceSpec) own b (by kernel_rfl) Y9
  (witness_row_at (enc:=enc) (C:=Tryz.checked) ZA
   ({ World.holding Pg os ⟨#[],#[],[]⟩ with heap:=Array.modify (Array.modify (Array.modify (Array.modify (Array.modify (Array.modify (World.holding Pg os ⟨#[],#[],[]⟩).heap 0 (put (r [] 0 0 0 0++r [108,105,116] 2000 0 0 1++r [99,97,116] 0 0 2 1++r [99,117,116] 0 2000 1 1++r [114,101,115,116] 0 2000 1 1++r [119,111,114,100] 0 2000 1 1++r [115,97,109,101] 0 0 2 1++r [100,117,112] 0 0 1 2++r [115,119,97,112] 0 0 2 2++r [100,114,111,112] 0 0 1 0++r [106,117,109,112] 0 200 0 0++r [117,110,108,101,115,115] 0 200 1 0++r [97,115,107] 0 0 1 1++r [104,97,115] 0 0 1 1++r [102,97,105,108] 0 0 1 0++r [101,110,100] 0 0 1 0).toArray)) 2 (put ((List.range 20).map λk=>Value.int .u64 (10^k:Nat)).toArray)) 5 (u8 [0,1,28,2,29,14,24,3,30,22,20,15,25,17,4,8,31,27,13,23,21,19,16,7,26,12,18,6,11,5,10,9])) 6 (u8 [0,1,56,2,57,49,28,3,61,58,42,50,38,29,17,4,62,47,59,36,45,43,51,22,53,39,33,30,24,18,12,5,63,55,48,27,60,41,37,16,46,35,44,21,52,32,23,11,54,26,40,15,34,20,31,10,25,14,19,9,13,8,7,6])) 4 (u8 [128,191,160,191,128,159,144,191,128,143,0,0,0,0,0,0,0,0,0,0,0,0,0,0,0,0,0,0,0,0,0,0])) 3 (put firstCells) }:E)
   Jk rfl (by kernel_rfl) (by kernel_rfl) (by kernel_rfl)
   (OpenSpec.preRow_of_cond 8 (x:=([.nil,.nil],[Rows.laid_loop_example_kilndeed_impl_rows],MemPlace.row ⟨0,0,Z⟩ 80)) (by kernel_rfl) (by kernel_rfl) (λk m=>by cases m) (by kernel_rfl) (laidMet_of_run' 8 (by kernel_rfl) (by kernel_rfl)))) ?_
 intro W h args l i f g j _ _ _ hL _ _;exact GA H enc W h args l i f g j hL
theorem said:Rows.FnInfluenceSaid:=
 OpenClaim.holds_of_cond 3 Tryz.f3 rfl rfl rfl rfl rfl rfl rfl ⟨rfl,rfl,rfl,rfl,rfl⟩ rfl rfl rfl rfl rfl (by kernel_rfl) Y9 facts
  (OT (by kernel_rfl)) (by unfold Func.isWrapper;first|(rw[eT (by decide +kernel)];kernel_rfl)|(rw[eI (by decide +kernel)];exact⟨rfl,rfl⟩))
  (λos b H enc _ F=>by rw[OpenClaim.pre_eq_preRow];exact lifted os b H enc F)
theorem plain (f:FuncId)(fn:Func)(h:Tryz.pinned.checked.prog.funcNamed Rows.fnInfluenceRow.func=Q f)(b:Tryz.pinned.checked.prog.funcs[f]?=Q fn):ZH=Tryz.pinned.checked.prog.looks []/\∀(j:Nat) t,fn.params[j]?=Q t->Tryz.pinned.checked.prog.wantsStandIn t=ZA:=by
 obtain rfl:f=3:=IH ((show Pg.funcNamed Rows.fnInfluenceRow.func=Q 3 by kernel_rfl).c.k h) |>.symm;obtain rfl:fn=Tryz.f3:=(IH (Y9.c.k b)).c;refine⟨by kernel_rfl,λj t g=>?_⟩;rw[Tryz.params3] at g;obtain rfl:t=22:=by simpa using Array.mem_of_getElem? g
 exact(show Pg.wantsStandIn 22=ZA by kernel_rfl)
theorem card:Rows.FnInfluenceCardSaid:=
 Claim7.holds_tied_plain_at .later [] _ _ _ _ said (λ_ h=>by cases h) (by kernel_rfl) (λ_ h=>by cases h) fnInfluence_row_tie rfl ⟨rfl,rfl⟩ (by kernel_rfl) rfl plain (by kernel_rfl)
end Go.Proofs.YtcnilonhfpimnaaGreatDoor.Inc
namespace Go.Proofs.YtcnilonhfpimnaaGreatDoor
theorem fnInfluence_card:Rows.FnInfluenceCardSaid:=Inc.card
#print axioms fnInfluence_card
