import Derived.Test.YtkdimgejdocbbaaGreatDoorZTpLaw
import Derived.Test.YtkdimgejdocbbaaGreatDoorZTpFacts
import Derived.Test.YtkdimgejdocbbaaGreatDoorCards
import Derived.ProofKit
import Derived.OpenShut
import Derived.MakeChecks
import Derived.Deep.Slices
import Derived.Deep.Strs
import Derived.Test.YtkdimgejdocbbaaGreatDoorTie
import Derived.Deep.DeepHandedRow
import Derived.Lib.LaidTab
set_option maxRecDepth 100000
set_option linter.unusedSimpArgs false
open Go.Value renaming slice->Y,string->U,int->N
open Option renaming none->Z,some->Q
open Go.IntKind renaming i64->I
open Go renaming World->E,Value->QB,TypeId->QF
open Bool renaming false->D,true->QC
namespace Go.Proofs.YtkdimgejdocbbaaGreatDoor.Tpc
open Go.ChangeShapes Go.WideShapes Go.ChangeAt RowKit Go.Deep Vp
abbrev tI:String:=Rows.fnTopSpec.vars.headD default
theorem cells3:Tryz.prog.cellsOf 3=1:=by kernel_rfl
theorem DZ:Tryz.prog.cellsOf 266=5:=by kernel_rfl
theorem gRows:Tryz.prog.globalNamed tI=Q 0:=by kernel_rfl
theorem tRows:(Tryz.prog.globals[0]?).map (·.type)=Q 267:=by kernel_rfl
theorem tPow:(Tryz.prog.globals[2]?).map (·.type)=Q 362:=by kernel_rfl
theorem Cg:Tryz.prog.cellsOf 362=20:=by kernel_rfl
theorem Ch:Tryz.prog.cellsOf 328=1:=by kernel_rfl
theorem Ey:∀ k:Nat,k<16->∃ (s:DataW Unit) (L:List (DataW Unit)),Rows.laid_loop_example_kilndeed_impl_rows=.agg L/\L[k]?=Q (.agg [s,.lit (.int I (bP k)),.lit (.int I (dK k)),.lit (.int I (aM k)),.lit (.int I (bG k))]):=by intro k hk;rcases(show k=0∨k=1∨k=2∨k=3∨k=4∨k=5∨k=6∨k=7∨k=8∨k=9∨k=10∨k=11∨k=12∨k=13∨k=14∨k=15 by omega) with rfl | rfl | rfl | rfl | rfl | rfl | rfl | rfl | rfl | rfl | rfl | rfl | rfl | rfl | rfl | rfl;all_goals exact⟨_,_,rfl,rfl⟩
theorem gU {b:List QB}{o j:Nat}{v:QB}(d:j<5)(h:(((b.drop o).take 5).drop j).take 1=[v]):b[o+j]?=Q v:=by
 have h2:((((b.drop o).take 5).drop j).take 1)[0]?=Q v:=by rw[h];rfl
 simpa[NF,d] using h2
theorem vH {W:E}{enc:QF × QB->Unit}{sp:Nat->Bool}{z:Bool}{u:Nat}{b:Array QB}{p:List MemPlace}(f:W.var? Tryz.prog tI=Q b)
  (QO:DataW.trod enc Tryz.prog W 0 sp z u 267 b.toList=Q (Rows.laid_loop_example_kilndeed_impl_rows,p)):Tab W/\Tab2 W:=by
 obtain⟨xs,m,_,x,_,hn,o⟩:=DataW.trod_array Tryz.underlying267 QO;rw[DZ] at o;have i:∀ k:Nat,k<16->b.toList[k*5+1]?=Q (N I (bP k))/\b.toList[k*5+2]?=Q (N I (dK k))/\b.toList[k*5+3]?=Q (N I (aM k))/\b.toList[k*5+4]?=Q (N I (bG k)):=by
  intro k g;obtain⟨s,L,hL,l⟩:=Ey k g;rw[hL] at x;simp only[CV,DataW.agg.injEq] at x;have d:=o k g;rw[x.1,ID] at l;obtain⟨y,QK,r⟩:=KE.1 l;rw[QK] at d;obtain⟨h,n,_,C,_,_,j⟩:=DataW.trod_struct Tryz.underlying266 d;have hz:h.map (·.1)=[s,.lit (.int I (bP k)),.lit (.int I (dK k)),.lit (.int I (aM k)),.lit (.int I (bG k))]:=by rw[C] at r;simpa using r
  have h1:DataW.trod _ Tryz.prog W 0 _ _ n 3 ((((b.toList.drop (k*5)).take 5).drop 1).take (Tryz.prog.cellsOf 3))=h[1]?:=j 1 _ rfl;have h2:DataW.trod _ Tryz.prog W 0 _ _ n 3 ((((b.toList.drop (k*5)).take 5).drop 2).take (Tryz.prog.cellsOf 3))=h[2]?:=j 2 _ rfl;have B:DataW.trod _ Tryz.prog W 0 _ _ n 3 ((((b.toList.drop (k*5)).take 5).drop 3).take (Tryz.prog.cellsOf 3))=h[3]?:=j 3 _ rfl;have QN:DataW.trod _ Tryz.prog W 0 _ _ n 3 ((((b.toList.drop (k*5)).take 5).drop 4).take (Tryz.prog.cellsOf 3))=h[4]?:=j 4 _ rfl;rw[cells3] at h1 h2 B QN;match h,hz with
  | [y0,y1,y2,y3,y4],hz =>
   simp only[LD,LQ,List.cons.injEq,and_true] at hz;obtain⟨z1,G,S,_⟩:=MB Tryz.underlying3 (show DataW.trod _ Tryz.prog W 0 _ _ n 3 _=Q y1 from h1);obtain⟨z2,QP,QM,_⟩:=MB Tryz.underlying3 (show DataW.trod _ Tryz.prog W 0 _ _ n 3 _=Q y2 from h2);obtain⟨z3,H,QL,_⟩:=MB Tryz.underlying3 (show DataW.trod _ Tryz.prog W 0 _ _ n 3 _=Q y3 from B);obtain⟨P,A,O,_⟩:=MB Tryz.underlying3 (show DataW.trod _ Tryz.prog W 0 _ _ n 3 _=Q y4 from QN);have QJ:z1=bP k:=by have:=hz.2.1;rw[S] at this;simpa using this
   have M:z2=dK k:=by have:=hz.2.2.1;rw[QM] at this;simpa using this
   have R:z3=aM k:=by have:=hz.2.2.2.1;rw[QL] at this;simpa using this
   have K:P=bG k:=by have:=hz.2.2.2.2;rw[O] at this;simpa using this
   rw[QJ] at G;rw[M] at QP;rw[R] at H;rw[K] at A;exact⟨gU (by omega) G,gU (by omega) QP,gU (by omega) H,gU (by omega) A⟩
 have q:0<W.heap.size:=by
  have QQ:=KI gRows f 1;have:=(i 0 (by omega)).1;simp only[LV,C9,IN] at this;rw[this] at QQ;rcases IW 0 W.heap.size with t | t
  ·exact t
  ·simp[World.cell?,JE t] at QQ
 refine⟨⟨q,fun k g=>?_⟩,⟨q,fun k g=>?_⟩⟩
 ·have c1:=KI gRows f (k*5+1)
  have c2:=KI gRows f (k*5+2);have d:=i k g;simp only[IN] at d;exact⟨c1.trans d.1,c2.trans d.2.1⟩
 ·have c3:=KI gRows f (k*5+3)
  have c4:=KI gRows f (k*5+4);have d:=i k g;simp only[IN] at d;exact⟨c3.trans d.2.2.1,c4.trans d.2.2.2⟩
theorem Ez {W:E}{enc:QF × QB->Unit}{sp:Nat->Bool}{d:Bool}{b:Nat}{f:Array QB}{p:List MemPlace}(h:W.var? Tryz.prog "internal/strconv.uint64pow10"=Q f)
  (g:DataW.trod enc Tryz.prog W 0 sp d b 362 f.toList=Q (Rows.laid_internal_strconv_uint64pow10,p)):Pow W:=by
 have e:=Lib.cells_of_tab (k:=.u64) (zs:=Lib.pow10Tab) Tryz.underlying362 Tryz.underlying328 Ch Cg g;show W.var? Tryz.prog _=Q _;rw[h,<-e]
theorem tables {W:E}(h:laidMetH Tryz.prog Rows.fnTopRow.laid W):Tab W/\Tab2 W/\Pow W:=by rw[MakeChecks.laidMetH_plain _ _ _ (by kernel_rfl)] at h;obtain⟨ps,⟨g0,t0,cs0,f0,p0,q0,hg0,ht0,hv0,hd0,⟨g1,t1,cs1,f1,p1,q1,hg1,ht1,hv1,hd1,⟨g2,t2,cs2,f2,p2,q2,l,k,i,j,⟨g3,t3,cs3,f3,p3,q3,hg3,ht3,hv3,hd3,⟨g4,t4,cs4,f4,p4,q4,g,f,d,b,_,_⟩,_⟩,_⟩,_⟩,_⟩,_,_⟩:=h;obtain rfl:=FB (gPow.symm.trans l);obtain rfl:=FB (tPow.symm.trans k);obtain rfl:=FB (gRows.symm.trans g);obtain rfl:=FB (tRows.symm.trans f);exact⟨(vH d b).1,(vH d b).2,Ez i j⟩
theorem own:ownKnob Tryz.prog.godebug=Z:=by kernel_rfl
theorem laidOut:laidOutB Tryz.prog=QC:=by kernel_rfl
theorem Ea:Tryz.prog.cellsOf 5=1:=by kernel_rfl
theorem oU {H:Type}{enc:QF × QB->H}{W:E}{t:Nat}{v:QB}{d:DataW H}{p:List MemPlace}(L:Value.okWide Tryz.prog W .any t 22 v)
  (h:DataW.Trod enc Tryz.prog W 0 (fun _=>QC) QC 22 v d p) :
  ∃ a n g,v=Y a n g/\(n:Int)<=9223372036854775807/\n<=g/\ByteSl W a n:=by
 obtain⟨a0,n0,c0,rfl⟩:=okWide_slice Tryz.underlying22 L;obtain⟨fuel,C⟩:=h;rcases open_slice1 Tryz.underlying22 Ea C with ⟨j,_⟩ | ⟨a,len,g,m,k,V,QQ,Pl,j,hb,B,K,A,_,l⟩
 ·simp[Value.cells] at j
  obtain⟨rfl,rfl,rfl⟩:=j;exact⟨Z,0,0,rfl,by omega,by omega,.inl rfl⟩
 ·simp[Value.cells] at j
  obtain⟨rfl,rfl,rfl⟩:=j;have r:m=c0:=by simpa using A
  subst r;have s:(n0:Int)<=9223372036854775807:=by unfold maxLen at K;omega
  refine⟨_,n0,m,rfl,s,B,?_⟩;by_cases hz:n0=0
  ·exact .inl hz
  ·obtain⟨b,off,x⟩:=a
   have o:x=Z:=by simpa[Addr.add] using World.cell?_spot (l 0 (by omega)).1
   subst o;refine .inr ⟨b,off,rfl,?_,fun i hi=>?_⟩
   ·have:=World.block_lt_of_cell? W _ (l 0 (by omega)).1
    simpa[Addr.add] using this
   ·obtain⟨f,QO⟩:=l i (by omega)
    obtain⟨z,y,_,QN⟩:=MB Tryz.underlying5 QO;rw[add_plain] at f;simp at y;rw[y] at f;have QP:0<=z/\z<256:=by
     have q:(decide (IntKind.u8.min<=z) && decide (z<=IntKind.u8.max))=QC:=QN;simp only[gM,j4] at q;have m0:IntKind.u8.min=0:=by decide
     have G:IntKind.u8.max=255:=by decide
     rw[m0,G] at q;omega
    obtain⟨u,rfl⟩:=xT QP.1;exact⟨u,by omega,f⟩
theorem Ci (H:Type)(enc:QF × QB->H)(W:E)(u:Nat)(args:Array QB)(QN V:List (DataW H))(k:List MemPlace)
  (f:∀ (j:Nat) t v,Tryz.f8.params[j]?=Q t->args[j]?=Q v->Value.okWide Tryz.prog W .any u t v)
  (QO:DataW.Whole enc Tryz.prog Tryz.f8.params.toList Rows.fnTopSpec.vars D W args.toList QN V k) (hL:laidMetH Tryz.prog Rows.fnTopRow.laid W) :
  Calls Tryz.prog 8 args W fun e G=>∃ v,e=.returned v/\Rows.fnTopSpec.post enc Tryz.prog Tryz.f8 D QC D D W args v G:=by
 have o:=QO;obtain⟨p,q,K,hV,rfl,hfz,hnd⟩:=QO;have B:DataW.TrodAll enc Tryz.prog W 0 (fun _=>QC) QC Tryz.f8.params.toList args.toList QN p:=K;rw[Tryz.params8] at B f;obtain⟨QP,vs0,d0,ds0,QM,q0,hargs,rfl,rfl,C,r0⟩:=trodAll_cons B;obtain⟨M,vs1,d1,ds1,QG,q1,rfl,rfl,rfl,h1,r1⟩:=trodAll_cons r0;obtain⟨rfl,rfl,rfl⟩:=trodAll_nil r1;obtain rfl:args=#[QP,M]:=by cases args;simp_all
 obtain⟨g,t,QK,fuel,dg,pg,rfl,r,y,QH,QJ,rfl⟩:=trodVars_one hV;have l:=o.lt;obtain⟨a,n,z,rfl,hn,P,R⟩:=oU (f 0 22 QP rfl rfl) C;obtain⟨b,m,s,rfl,hm,A,QQ⟩:=oU (f 1 22 M rfl rfl) h1;obtain⟨O,S,X⟩:=tables hL;refine(DY a n z b m s W P A R QQ O S X).mono fun e G ⟨QL,i⟩=>?_;subst QL;refine⟨_,rfl,_,_,_,[],QM++(QG++[]),MemPlace.row ⟨g,0,Z⟩ QK.size++pg,o,?_,?_,?_,i.frame _,fun h=>by cases h⟩
 ·exact trodAll_cons_mk (shut_bool Tryz.underlying4 _) trodAll_mk0
 ·exact trodAll_cons_mk (Below.trod laidOut (by kernel_rfl) (IU (by kernel_rfl)) C i (fun x d=>l x (by simp[d]))) (trodAll_cons_mk (Below.trod laidOut (by kernel_rfl) (IU (by kernel_rfl)) h1 i (fun x d=>l x (by simp[d]))) trodAll_mk0)
 ·have e:t=267:=by rw[FB (r.symm.trans gRows)] at y;exact FB (y.symm.trans tRows)
  subst e;have L:∀ x∈pg,x.block<W.heap.size:=fun x d=>l x (by simp[d])
  exact trodVars_mk1 r y (Joins.var_stays r QH i lr)
   (DataW.trod_stays (kids_book laidOut (by kernel_rfl)) (book_sized (by kernel_rfl)) (fun h=>by cases h) ⟨IU (by kernel_rfl),book_self 267⟩ QJ (fun x d=>i.same (L x d)) (fun x d=>by simpa using L x d))
def put (b:Array QB):Obj->Obj
 | .cells _ t frozen=>.cells b t frozen
 | o=>o
def firstCells:Array QB:=(Go.Pinned.utf8FirstZ.map (fun z:Nat=>Value.int .u8 (z:Int))).toArray
abbrev EC:Array QB:=#[Y Z 0 0,Y Z 0 0]
theorem lifted (os:Os)(b:os.Started)(H:Type)(enc:QF × QB->H)(F:Stop.Interp):ReturnsInHanded {} Tryz.checked os 8 .any ((OpenSpec.ofChange Rows.fnTopSpec).preRow enc Tryz.prog Tryz.f8 Rows.fnTopRow.domain D Rows.fnTopRow.laid) (((OpenSpec.ofChange Rows.fnTopSpec).at F).post enc Tryz.prog Tryz.f8 D QC D D):=by
 refine returnsInHanded_of_row (C:=Tryz.checked) (s:=OpenSpec.ofChange Rows.fnTopSpec) own b (by kernel_rfl) Tryz.func8
  (witness_row_at (enc:=enc) (C:=Tryz.checked) D
   ({ World.holding Tryz.prog os ⟨#[],#[],[]⟩ with heap:=Array.modify (Array.modify (Array.modify (Array.modify (Array.modify (Array.modify (World.holding Tryz.prog os ⟨#[],#[],[]⟩).heap 0 (put #[U ⟨#[]⟩,N I 0,N I 0,N I 0,N I 0,U ⟨#[108,105,116]⟩,N I 2000,N I 0,N I 0,N I 1,U ⟨#[99,97,116]⟩,N I 0,N I 0,N I 2,N I 1,U ⟨#[99,117,116]⟩,N I 0,N I 2000,N I 1,N I 1,U ⟨#[114,101,115,116]⟩,N I 0,N I 2000,N I 1,N I 1,U ⟨#[119,111,114,100]⟩,N I 0,N I 2000,N I 1,N I 1,U ⟨#[115,97,109,101]⟩,N I 0,N I 0,N I 2,N I 1,U ⟨#[100,117,112]⟩,N I 0,N I 0,N I 1,N I 2,U ⟨#[115,119,97,112]⟩,N I 0,N I 0,N I 2,N I 2,U ⟨#[100,114,111,112]⟩,N I 0,N I 0,N I 1,N I 0,U ⟨#[106,117,109,112]⟩,N I 0,N I 200,N I 0,N I 0,U ⟨#[117,110,108,101,115,115]⟩,N I 0,N I 200,N I 1,N I 0,U ⟨#[97,115,107]⟩,N I 0,N I 0,N I 1,N I 1,U ⟨#[104,97,115]⟩,N I 0,N I 0,N I 1,N I 1,U ⟨#[102,97,105,108]⟩,N I 0,N I 0,N I 1,N I 0,U ⟨#[101,110,100]⟩,N I 0,N I 0,N I 1,N I 0])) 2 (put #[N .u64 1,N .u64 10,N .u64 100,N .u64 1000,N .u64 10000,N .u64 100000,N .u64 1000000,N .u64 10000000,N .u64 100000000,N .u64 1000000000,N .u64 10000000000,N .u64 100000000000,N .u64 1000000000000,N .u64 10000000000000,N .u64 100000000000000,N .u64 1000000000000000,N .u64 10000000000000000,N .u64 100000000000000000,N .u64 1000000000000000000,N .u64 10000000000000000000])) 5 (put #[N .u8 0,N .u8 1,N .u8 28,N .u8 2,N .u8 29,N .u8 14,N .u8 24,N .u8 3,N .u8 30,N .u8 22,N .u8 20,N .u8 15,N .u8 25,N .u8 17,N .u8 4,N .u8 8,N .u8 31,N .u8 27,N .u8 13,N .u8 23,N .u8 21,N .u8 19,N .u8 16,N .u8 7,N .u8 26,N .u8 12,N .u8 18,N .u8 6,N .u8 11,N .u8 5,N .u8 10,N .u8 9])) 6 (put #[N .u8 0,N .u8 1,N .u8 56,N .u8 2,N .u8 57,N .u8 49,N .u8 28,N .u8 3,N .u8 61,N .u8 58,N .u8 42,N .u8 50,N .u8 38,N .u8 29,N .u8 17,N .u8 4,N .u8 62,N .u8 47,N .u8 59,N .u8 36,N .u8 45,N .u8 43,N .u8 51,N .u8 22,N .u8 53,N .u8 39,N .u8 33,N .u8 30,N .u8 24,N .u8 18,N .u8 12,N .u8 5,N .u8 63,N .u8 55,N .u8 48,N .u8 27,N .u8 60,N .u8 41,N .u8 37,N .u8 16,N .u8 46,N .u8 35,N .u8 44,N .u8 21,N .u8 52,N .u8 32,N .u8 23,N .u8 11,N .u8 54,N .u8 26,N .u8 40,N .u8 15,N .u8 34,N .u8 20,N .u8 31,N .u8 10,N .u8 25,N .u8 14,N .u8 19,N .u8 9,N .u8 13,N .u8 8,N .u8 7,N .u8 6])) 4 (put #[N .u8 128,N .u8 191,N .u8 160,N .u8 191,N .u8 128,N .u8 159,N .u8 144,N .u8 191,N .u8 128,N .u8 143,N .u8 0,N .u8 0,N .u8 0,N .u8 0,N .u8 0,N .u8 0,N .u8 0,N .u8 0,N .u8 0,N .u8 0,N .u8 0,N .u8 0,N .u8 0,N .u8 0,N .u8 0,N .u8 0,N .u8 0,N .u8 0,N .u8 0,N .u8 0,N .u8 0,N .u8 0])) 3 (put firstCells) }:E)
   EC rfl (by kernel_rfl) (by kernel_rfl) (by kernel_rfl)
   (OpenSpec.preRow_of_cond 8 (x:=([.nil,.nil],[Rows.laid_loop_example_kilndeed_impl_rows],MemPlace.row ⟨0,0,Z⟩ 80)) (by kernel_rfl) (by kernel_rfl) (fun k h=>by cases h) (by kernel_rfl) (laidMet_of_run' 8 (by kernel_rfl) (by kernel_rfl)))) ?_
 intro W f args j i d g l _ _ _ hL _ _;exact Ci H enc W f args j i d g l hL
theorem said:Rows.FnTopSaid :=
 OpenClaim.holds_of_cond 8 Tryz.f8 rfl rfl rfl rfl rfl rfl rfl ⟨rfl,rfl,rfl,rfl,rfl⟩ rfl rfl rfl rfl rfl (by kernel_rfl) Tryz.func8 facts
  (IU (by kernel_rfl)) (by unfold Func.isWrapper;first | (rw[eT (by decide +kernel)];kernel_rfl) | (rw[a8 (by decide +kernel)];exact⟨rfl,rfl⟩))
  (fun os b H enc _ F=>by rw[OpenClaim.pre_eq_preRow];exact lifted os b H enc F)
theorem plain (f:FuncId)(fn:Func)(g:Tryz.pinned.checked.prog.funcNamed Rows.fnTopRow.func=Q f)(d:Tryz.pinned.checked.prog.funcs[f]?=Q fn):QC=Tryz.pinned.checked.prog.looks []/\∀ (j:Nat) t,fn.params[j]?=Q t->Tryz.pinned.checked.prog.wantsStandIn t=D:=by
 obtain rfl:f=8:=FB ((show Tryz.prog.funcNamed Rows.fnTopRow.func=Q 8 by kernel_rfl).symm.trans g) |>.symm;obtain rfl:fn=Tryz.f8:=(FB (Tryz.func8.symm.trans d)).symm;refine⟨by kernel_rfl,fun j t b=>?_⟩;rw[Tryz.params8] at b;obtain rfl:t=22:=by simpa using Array.mem_of_getElem? b
 exact(show Tryz.prog.wantsStandIn 22=D by kernel_rfl)
theorem card:Rows.FnTopCardSaid :=
 Claim7.holds_tied_plain_at .later [] _ _ _ _ said (fun _ h=>by cases h) (by kernel_rfl) (fun _ h=>by cases h) fnTop_row_tie rfl ⟨rfl,rfl⟩ (by kernel_rfl) rfl plain (by kernel_rfl)
end Go.Proofs.YtkdimgejdocbbaaGreatDoor.Tpc
namespace Go.Proofs.YtkdimgejdocbbaaGreatDoor
theorem fnTop_card:Rows.FnTopCardSaid:=Tpc.card
#print axioms fnTop_card
end Go.Proofs.YtkdimgejdocbbaaGreatDoor
