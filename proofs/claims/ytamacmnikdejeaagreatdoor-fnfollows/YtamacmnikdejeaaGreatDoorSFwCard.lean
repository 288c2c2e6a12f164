import Derived.Test.YtamacmnikdejeaaGreatDoorSFwLaw
import Derived.Test.YtamacmnikdejeaaGreatDoorSFwFacts
import Derived.Test.YtamacmnikdejeaaGreatDoorCards
import Derived.ProofKit
import Derived.OpenShut
import Derived.MakeChecks
import Derived.Deep.Slices
import Derived.Deep.Strs
import Derived.Test.YtamacmnikdejeaaGreatDoorTie
import Derived.Deep.DeepHandedRow
import Derived.Lib.LaidTab
set_option maxRecDepth 100000
set_option linter.unusedSimpArgs false
open Option renaming none->Z,some->T
open Go.IntKind renaming i64->I
open Go renaming World->G,Value->QE
open Bool renaming false->QB,true->QD
namespace Go.Proofs.YtamacmnikdejeaaGreatDoor.Fwc
open Go.ChangeShapes Go.WideShapes Go.ChangeAt RowKit Go.Deep Vp
abbrev ub:String:=Rows.fnFollowsSpec.vars.headD default
theorem cells3:Tryz.prog.cellsOf 3=1:=by kernel_rfl
theorem DD:Tryz.prog.cellsOf 271=5:=by kernel_rfl
theorem gRows:Tryz.prog.globalNamed ub=T 0:=by kernel_rfl
theorem tRows:(Tryz.prog.globals[0]?).map (·.type)=T 272:=by kernel_rfl
theorem tPow:(Tryz.prog.globals[2]?).map (·.type)=T 330:=by kernel_rfl
theorem BP:Tryz.prog.cellsOf 330=20:=by kernel_rfl
theorem BR:Tryz.prog.cellsOf 290=1:=by kernel_rfl
theorem Ex:∀ k:Nat,k<16->∃ (s:DataW Unit) (L:List (DataW Unit)),Rows.laid_loop_example_kilndeed_impl_rows=.agg L/\L[k]?=T (.agg [s,.lit (.int I (bP k)),.lit (.int I (dM k)),.lit (.int I (aT k)),.lit (.int I (bF k))]):=by intro k hk;rcases(show k=0∨k=1∨k=2∨k=3∨k=4∨k=5∨k=6∨k=7∨k=8∨k=9∨k=10∨k=11∨k=12∨k=13∨k=14∨k=15 by omega) with rfl | rfl | rfl | rfl | rfl | rfl | rfl | rfl | rfl | rfl | rfl | rfl | rfl | rfl | rfl | rfl;all_goals exact⟨_,_,rfl,rfl⟩
theorem gR {b:List QE}{o j:Nat}{v:QE}(f:j<5)(h:(((b.drop o).take 5).drop j).take 1=[v]):b[o+j]?=T v:=by
 have h2:((((b.drop o).take 5).drop j).take 1)[0]?=T v:=by rw[h];rfl
 simpa[NO,f] using h2
theorem vO {W:G}{enc:TypeId × QE->Unit}{sp:Nat->Bool}{x:Bool}{A:Nat}{b:Array QE}{p:List MemPlace}(g:W.var? Tryz.prog ub=T b)
  (QR:DataW.trod enc Tryz.prog W 0 sp x A 272 b.toList=T (Rows.laid_loop_example_kilndeed_impl_rows,p)):Tab W/\Tab2 W:=by
 obtain⟨xs,m,_,z,_,hn,q⟩:=DataW.trod_array Tryz.underlying272 QR;rw[DD] at q;have j:∀ k:Nat,k<16->b.toList[k*5+1]?=T (.int I (bP k))/\b.toList[k*5+2]?=T (.int I (dM k))/\b.toList[k*5+3]?=T (.int I (aT k))/\b.toList[k*5+4]?=T (.int I (bF k)):=by
  intro k h;obtain⟨s,L,hL,t⟩:=Ex k h;rw[hL] at z;simp only[IA,DataW.agg.injEq] at z;have f:=q k h;rw[z.1,IH] at t;obtain⟨y,S,o⟩:=J0.1 t;rw[S] at f;obtain⟨i,n,_,C,_,_,l⟩:=DataW.trod_struct Tryz.underlying271 f;have hz:i.map (·.1)=[s,.lit (.int I (bP k)),.lit (.int I (dM k)),.lit (.int I (aT k)),.lit (.int I (bF k))]:=by rw[C] at o;simpa using o
  have h1:DataW.trod _ Tryz.prog W 0 _ _ n 3 ((((b.toList.drop (k*5)).take 5).drop 1).take (Tryz.prog.cellsOf 3))=i[1]?:=l 1 _ rfl;have h2:DataW.trod _ Tryz.prog W 0 _ _ n 3 ((((b.toList.drop (k*5)).take 5).drop 2).take (Tryz.prog.cellsOf 3))=i[2]?:=l 2 _ rfl;have QP:DataW.trod _ Tryz.prog W 0 _ _ n 3 ((((b.toList.drop (k*5)).take 5).drop 3).take (Tryz.prog.cellsOf 3))=i[3]?:=l 3 _ rfl;have B:DataW.trod _ Tryz.prog W 0 _ _ n 3 ((((b.toList.drop (k*5)).take 5).drop 4).take (Tryz.prog.cellsOf 3))=i[4]?:=l 4 _ rfl;rw[cells3] at h1 h2 QP B;match i,hz with
  | [y0,y1,y2,y3,y4],hz =>
   simp only[LQ,NG,List.cons.injEq,and_true] at hz;obtain⟨z1,QO,QL,_⟩:=MH Tryz.underlying3 (show DataW.trod _ Tryz.prog W 0 _ _ n 3 _=T y1 from h1);obtain⟨z2,K,QN,_⟩:=MH Tryz.underlying3 (show DataW.trod _ Tryz.prog W 0 _ _ n 3 _=T y2 from h2);obtain⟨z3,H,QM,_⟩:=MH Tryz.underlying3 (show DataW.trod _ Tryz.prog W 0 _ _ n 3 _=T y3 from QP);obtain⟨M,D,R,_⟩:=MH Tryz.underlying3 (show DataW.trod _ Tryz.prog W 0 _ _ n 3 _=T y4 from B);have P:z1=bP k:=by have:=hz.2.1;rw[QL] at this;simpa using this
   have O:z2=dM k:=by have:=hz.2.2.1;rw[QN] at this;simpa using this
   have V:z3=aT k:=by have:=hz.2.2.2.1;rw[QM] at this;simpa using this
   have QK:M=bF k:=by have:=hz.2.2.2.2;rw[R] at this;simpa using this
   rw[P] at QO;rw[O] at K;rw[V] at H;rw[QK] at D;exact⟨gR (by omega) QO,gR (by omega) K,gR (by omega) H,gR (by omega) D⟩
 have r:0<W.heap.size:=by
  have E:=KZ gRows g 1;have:=(j 0 (by omega)).1;simp only[NH,D0,IJ] at this;rw[this] at E;rcases JK 0 W.heap.size with u | u
  ·exact u
  ·simp[World.cell?,JP u] at E
 refine⟨⟨r,fun k h=>?_⟩,⟨r,fun k h=>?_⟩⟩
 ·have c1:=KZ gRows g (k*5+1)
  have c2:=KZ gRows g (k*5+2);have f:=j k h;simp only[IJ] at f;exact⟨c1.trans f.1,c2.trans f.2.1⟩
 ·have c3:=KZ gRows g (k*5+3)
  have c4:=KZ gRows g (k*5+4);have f:=j k h;simp only[IJ] at f;exact⟨c3.trans f.2.2.1,c4.trans f.2.2.2⟩
theorem Ey {W:G}{enc:TypeId × QE->Unit}{sp:Nat->Bool}{b:Bool}{f:Nat}{g:Array QE}{p:List MemPlace}(i:W.var? Tryz.prog "internal/strconv.uint64pow10"=T g)
  (h:DataW.trod enc Tryz.prog W 0 sp b f 330 g.toList=T (Rows.laid_internal_strconv_uint64pow10,p)):Pow W:=by
 have e:=Lib.cells_of_tab (k:=.u64) (zs:=Lib.pow10Tab) Tryz.underlying330 Tryz.underlying290 BR BP h;show W.var? Tryz.prog _=T _;rw[i,<-e]
theorem tables {W:G}(h:laidMetH Tryz.prog Rows.fnFollowsRow.laid W):Tab W/\Tab2 W/\Pow W:=by rw[MakeChecks.laidMetH_plain _ _ _ (by kernel_rfl)] at h;obtain⟨ps,⟨g0,t0,cs0,f0,p0,q0,hg0,ht0,hv0,hd0,⟨g1,t1,cs1,f1,p1,q1,hg1,ht1,hv1,hd1,⟨g2,t2,cs2,f2,p2,q2,i,l,n,m,⟨g3,t3,cs3,f3,p3,q3,hg3,ht3,hv3,hd3,⟨g4,t4,cs4,f4,p4,q4,g,j,b,f,_,_⟩,_⟩,_⟩,_⟩,_⟩,_,_⟩:=h;obtain rfl:=DC (gPow.symm.trans i);obtain rfl:=DC (tPow.symm.trans l);obtain rfl:=DC (gRows.symm.trans g);obtain rfl:=DC (tRows.symm.trans j);exact⟨(vO b f).1,(vO b f).2,Ey n m⟩
theorem own:ownKnob Tryz.prog.godebug=Z:=by kernel_rfl
theorem laidOut:laidOutB Tryz.prog=QD:=by kernel_rfl
theorem DG:Tryz.prog.cellsOf 5=1:=by kernel_rfl
theorem xN {H:Type}{enc:TypeId × QE->H}{W:G}{q:Nat}{v:QE}{d:DataW H}{p:List MemPlace}(C:Value.okWide Tryz.prog W .any q 22 v)
  (h:DataW.Trod enc Tryz.prog W 0 (fun _=>QD) QD 22 v d p) :
  ∃ a n cap,v=.slice a n cap/\(n:Int)<=9223372036854775807/\n<=cap/\ByteSl W a n:=by
 obtain⟨a0,n0,c0,rfl⟩:=okWide_slice Tryz.underlying22 C;obtain⟨fuel,QP⟩:=h;rcases open_slice1 Tryz.underlying22 DG QP with ⟨j,_⟩ | ⟨a,len,cap,m,k,V,D,Pl,j,hb,B,A,x,_,g⟩
 ·simp[Value.cells] at j
  obtain⟨rfl,rfl,rfl⟩:=j;exact⟨Z,0,0,rfl,by omega,by omega,.inl rfl⟩
 ·simp[Value.cells] at j
  obtain⟨rfl,rfl,rfl⟩:=j;have t:m=c0:=by simpa using x
  subst t;have s:(n0:Int)<=9223372036854775807:=by unfold maxLen at A;omega
  refine⟨_,n0,m,rfl,s,B,?_⟩;by_cases hz:n0=0
  ·exact .inl hz
  ·obtain⟨b,off,r⟩:=a
   have l:r=Z:=by simpa[Addr.add] using World.cell?_spot (g 0 (by omega)).1
   subst l;refine .inr ⟨b,off,rfl,?_,fun i hi=>?_⟩
   ·have:=World.block_lt_of_cell? W _ (g 0 (by omega)).1
    simpa[Addr.add] using this
   ·obtain⟨f,E⟩:=g i (by omega)
    obtain⟨z,y,_,QO⟩:=MH Tryz.underlying5 E;rw[add_plain] at f;simp at y;rw[y] at f;have QR:0<=z/\z<256:=by
     have o:(decide (IntKind.u8.min<=z) && decide (z<=IntKind.u8.max))=QD:=QO;simp only[j4,j5] at o;have m0:IntKind.u8.min=0:=by decide
     have K:IntKind.u8.max=255:=by decide
     rw[m0,K] at o;omega
    obtain⟨u,rfl⟩:=nX QR.1;exact⟨u,by omega,f⟩
theorem BU (H:Type)(enc:TypeId × QE->H)(W:G)(s:Nat)(args:Array QE)(z K:List (DataW H))(f:List MemPlace)
  (i:∀ (j:Nat) t v,Tryz.f3.params[j]?=T t->args[j]?=T v->Value.okWide Tryz.prog W .any s t v)
  (QR:DataW.Whole enc Tryz.prog Tryz.f3.params.toList Rows.fnFollowsSpec.vars QB W args.toList z K f) (hL:laidMetH Tryz.prog Rows.fnFollowsRow.laid W) :
  Calls Tryz.prog 3 args W fun e C=>∃ v,e=.returned v/\Rows.fnFollowsSpec.post enc Tryz.prog Tryz.f3 QB QD QB QB W args v C:=by
 have o:=QR;obtain⟨p,q,y,R,rfl,hfz,hnd⟩:=QR;have D:DataW.TrodAll enc Tryz.prog W 0 (fun _=>QD) QD Tryz.f3.params.toList args.toList z p:=y;rw[Tryz.params3] at D i;obtain⟨E,vs0,d0,ds0,M,q0,hargs,rfl,rfl,B,r0⟩:=trodAll_cons D;obtain⟨rfl,rfl,rfl⟩:=trodAll_nil r0;obtain rfl:args=#[E]:=by cases args;simp_all
 obtain⟨g,t,QM,fuel,dg,pg,rfl,u,r,L,QO,rfl⟩:=trodVars_one R;have m:=o.lt;obtain⟨a,n,cap,rfl,hn,QN,QL⟩:=xN (i 0 22 E rfl rfl) B;obtain⟨P,O,QP⟩:=tables hL;refine(uT a n cap W QN QL P O QP).mono fun e C ⟨S,l⟩=>?_;subst S;refine⟨_,rfl,_,_,_,[],M++[],MemPlace.row ⟨g,0,Z⟩ QM.size++pg,o,?_,?_,?_,l.frame _,fun h=>by cases h⟩
 ·exact trodAll_cons_mk (shut_bool Tryz.underlying4 _) trodAll_mk0
 ·exact trodAll_cons_mk (Below.trod laidOut (by kernel_rfl) (JE (by kernel_rfl)) B l (fun x b=>m x (by simp[b]))) trodAll_mk0
 ·have e:t=272:=by rw[DC (u.symm.trans gRows)] at r;exact DC (r.symm.trans tRows)
  subst e;have A:∀ x∈pg,x.block<W.heap.size:=fun x b=>m x (by simp[b])
  exact trodVars_mk1 u r (Joins.var_stays u L l ly)
   (DataW.trod_stays (kids_book laidOut (by kernel_rfl)) (book_sized (by kernel_rfl)) (fun h=>by cases h) ⟨JE (by kernel_rfl),book_self 272⟩ QO (fun x b=>l.same (A x b)) (fun x b=>by simpa using A x b))
def put (b:Array QE):Obj->Obj
 | .cells _ t frozen=>.cells b t frozen
 | o=>o
def firstCells:Array QE:=(Go.Pinned.utf8FirstZ.map (fun z:Nat=>Value.int .u8 (z:Int))).toArray
abbrev Ez:Array QE:=#[.slice Z 0 0]
theorem lifted (os:Os)(b:os.Started)(H:Type)(enc:TypeId × QE->H)(F:Stop.Interp):ReturnsInHanded {} Tryz.checked os 3 .any ((OpenSpec.ofChange Rows.fnFollowsSpec).preRow enc Tryz.prog Tryz.f3 Rows.fnFollowsRow.domain QB Rows.fnFollowsRow.laid) (((OpenSpec.ofChange Rows.fnFollowsSpec).at F).post enc Tryz.prog Tryz.f3 QB QD QB QB):=by
 refine returnsInHanded_of_row (C:=Tryz.checked) (s:=OpenSpec.ofChange Rows.fnFollowsSpec) own b (by kernel_rfl) Tryz.func3
  (witness_row_at (enc:=enc) (C:=Tryz.checked) QB
   ({ World.holding Tryz.prog os ⟨#[],#[],[]⟩ with heap:=Array.modify (Array.modify (Array.modify (Array.modify (Array.modify (Array.modify (World.holding Tryz.prog os ⟨#[],#[],[]⟩).heap 0 (put #[.string ⟨#[]⟩,.int I 0,.int I 0,.int I 0,.int I 0,.string ⟨#[108,105,116]⟩,.int I 2000,.int I 0,.int I 0,.int I 1,.string ⟨#[99,97,116]⟩,.int I 0,.int I 0,.int I 2,.int I 1,.string ⟨#[99,117,116]⟩,.int I 0,.int I 2000,.int I 1,.int I 1,.string ⟨#[114,101,115,116]⟩,.int I 0,.int I 2000,.int I 1,.int I 1,.string ⟨#[119,111,114,100]⟩,.int I 0,.int I 2000,.int I 1,.int I 1,.string ⟨#[115,97,109,101]⟩,.int I 0,.int I 0,.int I 2,.int I 1,.string ⟨#[100,117,112]⟩,.int I 0,.int I 0,.int I 1,.int I 2,.string ⟨#[115,119,97,112]⟩,.int I 0,.int I 0,.int I 2,.int I 2,.string ⟨#[100,114,111,112]⟩,.int I 0,.int I 0,.int I 1,.int I 0,.string ⟨#[106,117,109,112]⟩,.int I 0,.int I 200,.int I 0,.int I 0,.string ⟨#[117,110,108,101,115,115]⟩,.int I 0,.int I 200,.int I 1,.int I 0,.string ⟨#[97,115,107]⟩,.int I 0,.int I 0,.int I 1,.int I 1,.string ⟨#[104,97,115]⟩,.int I 0,.int I 0,.int I 1,.int I 1,.string ⟨#[102,97,105,108]⟩,.int I 0,.int I 0,.int I 1,.int I 0,.string ⟨#[101,110,100]⟩,.int I 0,.int I 0,.int I 1,.int I 0])) 2 (put #[.int .u64 1,.int .u64 10,.int .u64 100,.int .u64 1000,.int .u64 10000,.int .u64 100000,.int .u64 1000000,.int .u64 10000000,.int .u64 100000000,.int .u64 1000000000,.int .u64 10000000000,.int .u64 100000000000,.int .u64 1000000000000,.int .u64 10000000000000,.int .u64 100000000000000,.int .u64 1000000000000000,.int .u64 10000000000000000,.int .u64 100000000000000000,.int .u64 1000000000000000000,.int .u64 10000000000000000000])) 5 (put #[.int .u8 0,.int .u8 1,.int .u8 28,.int .u8 2,.int .u8 29,.int .u8 14,.int .u8 24,.int .u8 3,.int .u8 30,.int .u8 22,.int .u8 20,.int .u8 15,.int .u8 25,.int .u8 17,.int .u8 4,.int .u8 8,.int .u8 31,.int .u8 27,.int .u8 13,.int .u8 23,.int .u8 21,.int .u8 19,.int .u8 16,.int .u8 7,.int .u8 26,.int .u8 12,.int .u8 18,.int .u8 6,.int .u8 11,.int .u8 5,.int .u8 10,.int .u8 9])) 6 (put #[.int .u8 0,.int .u8 1,.int .u8 56,.int .u8 2,.int .u8 57,.int .u8 49,.int .u8 28,.int .u8 3,.int .u8 61,.int .u8 58,.int .u8 42,.int .u8 50,.int .u8 38,.int .u8 29,.int .u8 17,.int .u8 4,.int .u8 62,.int .u8 47,.int .u8 59,.int .u8 36,.int .u8 45,.int .u8 43,.int .u8 51,.int .u8 22,.int .u8 53,.int .u8 39,.int .u8 33,.int .u8 30,.int .u8 24,.int .u8 18,.int .u8 12,.int .u8 5,.int .u8 63,.int .u8 55,.int .u8 48,.int .u8 27,.int .u8 60,.int .u8 41,.int .u8 37,.int .u8 16,.int .u8 46,.int .u8 35,.int .u8 44,.int .u8 21,.int .u8 52,.int .u8 32,.int .u8 23,.int .u8 11,.int .u8 54,.int .u8 26,.int .u8 40,.int .u8 15,.int .u8 34,.int .u8 20,.int .u8 31,.int .u8 10,.int .u8 25,.int .u8 14,.int .u8 19,.int .u8 9,.int .u8 13,.int .u8 8,.int .u8 7,.int .u8 6])) 4 (put #[.int .u8 128,.int .u8 191,.int .u8 160,.int .u8 191,.int .u8 128,.int .u8 159,.int .u8 144,.int .u8 191,.int .u8 128,.int .u8 143,.int .u8 0,.int .u8 0,.int .u8 0,.int .u8 0,.int .u8 0,.int .u8 0,.int .u8 0,.int .u8 0,.int .u8 0,.int .u8 0,.int .u8 0,.int .u8 0,.int .u8 0,.int .u8 0,.int .u8 0,.int .u8 0,.int .u8 0,.int .u8 0,.int .u8 0,.int .u8 0,.int .u8 0,.int .u8 0])) 3 (put firstCells) }:G)
   Ez rfl (by kernel_rfl) (by kernel_rfl) (by kernel_rfl)
   (OpenSpec.preRow_of_cond 8 (x:=([.nil],[Rows.laid_loop_example_kilndeed_impl_rows],MemPlace.row ⟨0,0,Z⟩ 80)) (by kernel_rfl) (by kernel_rfl) (fun k l=>by cases l) (by kernel_rfl) (laidMet_of_run' 8 (by kernel_rfl) (by kernel_rfl)))) ?_
 intro W g args j i f h m _ _ _ hL _ _;exact BU H enc W g args j i f h m hL
theorem said:Rows.FnFollowsSaid :=
 OpenClaim.holds_of_cond 3 Tryz.f3 rfl rfl rfl rfl rfl rfl rfl ⟨rfl,rfl,rfl,rfl,rfl⟩ rfl rfl rfl rfl rfl (by kernel_rfl) Tryz.func3 facts
  (JE (by kernel_rfl)) (by unfold Func.isWrapper;first | (rw[gM (by decide +kernel)];kernel_rfl) | (rw[cM (by decide +kernel)];exact⟨rfl,rfl⟩))
  (fun os b H enc _ F=>by rw[OpenClaim.pre_eq_preRow];exact lifted os b H enc F)
theorem plain (f:FuncId)(fn:Func)(h:Tryz.pinned.checked.prog.funcNamed Rows.fnFollowsRow.func=T f)(b:Tryz.pinned.checked.prog.funcs[f]?=T fn):QD=Tryz.pinned.checked.prog.looks []/\∀ (j:Nat) t,fn.params[j]?=T t->Tryz.pinned.checked.prog.wantsStandIn t=QB:=by
 obtain rfl:f=3:=DC ((show Tryz.prog.funcNamed Rows.fnFollowsRow.func=T 3 by kernel_rfl).symm.trans h) |>.symm;obtain rfl:fn=Tryz.f3:=(DC (Tryz.func3.symm.trans b)).symm;refine⟨by kernel_rfl,fun j t g=>?_⟩;rw[Tryz.params3] at g;obtain rfl:t=22:=by simpa using Array.mem_of_getElem? g
 exact(show Tryz.prog.wantsStandIn 22=QB by kernel_rfl)
theorem card:Rows.FnFollowsCardSaid :=
 Claim7.holds_tied_plain_at .later [] _ _ _ _ said (fun _ h=>by cases h) (by kernel_rfl) (fun _ h=>by cases h) fnFollows_row_tie rfl ⟨rfl,rfl⟩ (by kernel_rfl) rfl plain (by kernel_rfl)
end Go.Proofs.YtamacmnikdejeaaGreatDoor.Fwc
namespace Go.Proofs.YtamacmnikdejeaaGreatDoor
theorem fnFollows_card:Rows.FnFollowsCardSaid:=Fwc.card
#print axioms fnFollows_card
end Go.Proofs.YtamacmnikdejeaaGreatDoor
