import Derived.Test.YtkophfgkcijjkaaGreatDoorZNnLaw
import Derived.Test.YtkophfgkcijjkaaGreatDoorZNnFacts
import Derived.Test.YtkophfgkcijjkaaGreatDoorCards
import Derived.ProofKit
import Derived.OpenShut
import Derived.MakeChecks
import Derived.Deep.Slices
import Derived.Deep.Strs
import Derived.Test.YtkophfgkcijjkaaGreatDoorTie
import Derived.Deep.DeepHandedRow
set_option maxRecDepth 100000
namespace Go.Proofs.YtkophfgkcijjkaaGreatDoor.Nnc
open Go.ChangeShapes Go.WideShapes Go.ChangeAt RowKit Go.Deep Vp
theorem own:ownKnob Tryz.prog.godebug=none:=by kernel_rfl
theorem laidOut:laidOutB Tryz.prog=true:=by kernel_rfl
abbrev xw:String:=Rows.fnNamesSpec.vars.headD default
theorem gRows:Tryz.prog.globalNamed xw=some 0:=by kernel_rfl
theorem tRows:(Tryz.prog.globals[0]?).map (·.type)=some 251:=by kernel_rfl
theorem cells3:Tryz.prog.cellsOf 3=1:=by kernel_rfl
theorem yz:Tryz.prog.cellsOf 250=5:=by kernel_rfl
theorem yA:Tryz.prog.cellsOf 5=1:=by kernel_rfl
theorem tR {H:Type}{enc:TypeId × Value->H}{W:World}{q:Nat}{v:Value}{d:DataW H}{p:List MemPlace}(A:Value.okWide Tryz.prog W .any q 22 v)
  (h:DataW.Trod enc Tryz.prog W 0 (fun _=>true) true 22 v d p) :
  ∃ a n cap,v=.slice a n cap/\(n:Int)<=9223372036854775807/\n<=cap/\ByteSl W a n:=by
 obtain⟨a0,n0,c0,rfl⟩:=okWide_slice Tryz.underlying22 A;obtain⟨fuel,J⟩:=h;rcases open_slice1 Tryz.underlying22 yA J with ⟨g,_⟩ | ⟨a,len,cap,m,k,V,D,Pl,g,hb,I,y,t,_,f⟩
 ·simp[Value.cells] at g
  obtain⟨rfl,rfl,rfl⟩:=g;exact⟨none,0,0,rfl,by omega,by omega,.inl rfl⟩
 ·simp[Value.cells] at g
  obtain⟨rfl,rfl,rfl⟩:=g;have o:m=c0:=by simpa using t
  subst o;have s:(n0:Int)<=9223372036854775807:=by unfold maxLen at y;omega
  refine⟨_,n0,m,rfl,s,I,?_⟩;by_cases hz:n0=0
  ·exact .inl hz
  ·obtain⟨b,off,r⟩:=a
   have j:r=none:=by simpa[Addr.add] using World.cell?_spot (f 0 (by omega)).1
   subst j;refine .inr ⟨b,off,rfl,?_,fun i hi=>?_⟩
   ·have:=World.block_lt_of_cell? W _ (f 0 (by omega)).1
    simpa[Addr.add] using this
   ·obtain⟨c,E⟩:=f i (by omega)
    obtain⟨z,x,_,B⟩:=DataW.trod_int Tryz.underlying5 E;rw[add_plain] at c;simp at x;rw[x] at c;have C:0<=z/\z<256:=by
     have l:(decide (IntKind.u8.min<=z) && decide (z<=IntKind.u8.max))=true:=B;simp only[Bool.and_eq_true,decide_eq_true_eq] at l;have m0:IntKind.u8.min=0:=by decide
     have G:IntKind.u8.max=255:=by decide
     rw[m0,G] at l;omega
    obtain⟨u,rfl⟩:=Int.eq_ofNat_of_zero_le C.1;exact⟨u,by omega,c⟩
theorem yZ:∀ k:Nat,k<16->∃ (s t p:DataW Unit) (L:List (DataW Unit)),Rows.laid_loop_example_kilndeed_impl_rows=.agg L/\L[k]?=some (.agg [s,.lit (.int .i64 (bF k)),.lit (.int .i64 (ec k)),t,p]):=by intro k hk;rcases(show k=0∨k=1∨k=2∨k=3∨k=4∨k=5∨k=6∨k=7∨k=8∨k=9∨k=10∨k=11∨k=12∨k=13∨k=14∨k=15 by omega) with rfl | rfl | rfl | rfl | rfl | rfl | rfl | rfl | rfl | rfl | rfl | rfl | rfl | rfl | rfl | rfl;all_goals exact⟨_,_,_,_,rfl,rfl⟩
theorem kU {b:List Value}{o j:Nat}{v:Value}(c:j<5)(h:(((b.drop o).take 5).drop j).take 1=[v]):b[o+j]?=some v:=by
 have d:((((b.drop o).take 5).drop j).take 1)[0]?=some v:=by rw[h];rfl
 simpa[List.getElem?_take,c] using d
theorem table {W:World}(h:laidMetH Tryz.prog Rows.fnNamesRow.laid W):Tab W:=by
 rw[MakeChecks.laidMetH_plain _ _ _ (by kernel_rfl)] at h;obtain⟨ps,⟨g0,t0,d,f0,p0,q0,c,G,f,x,_,_⟩,_,_⟩:=h;obtain rfl:=Option.some.inj (gRows.symm.trans c);obtain rfl:=Option.some.inj (tRows.symm.trans G);obtain⟨xs,m,_,r,_,hn,l⟩:=DataW.trod_array Tryz.underlying251 x;rw[yz] at l;have j:∀ k,k<16->d.toList[k*5+1]?=some (.int .i64 (bF k))/\d.toList[k*5+2]?=some (.int .i64 (ec k)):=by
  intro k i;obtain⟨s,t,p,L,hL,q⟩:=yZ k i;rw[hL] at r;simp only[Prod.mk.injEq,DataW.agg.injEq] at r;have b:=l k i;rw[r.1,List.getElem?_map] at q;obtain⟨y,N,o⟩:=Option.map_eq_some_iff.1 q;rw[N] at b;obtain⟨g,n,_,C,_,_,H⟩:=DataW.trod_struct Tryz.underlying250 b;have hz:g.map (·.1)=[s,.lit (.int .i64 (bF k)),.lit (.int .i64 (ec k)),t,p]:=by rw[C] at o;simpa using o
  have A:DataW.trod _ Tryz.prog W 0 _ _ n 3 ((((d.toList.drop (k*5)).take 5).drop 1).take (Tryz.prog.cellsOf 3))=g[1]?:=H 1 _ rfl;have E:DataW.trod _ Tryz.prog W 0 _ _ n 3 ((((d.toList.drop (k*5)).take 5).drop 2).take (Tryz.prog.cellsOf 3))=g[2]?:=H 2 _ rfl;rw[cells3] at A E;match g,hz with
  | [y0,y1,y2,y3,y4],hz =>
   simp only[List.map_cons,List.map_nil,List.cons.injEq,and_true] at hz;obtain⟨z1,B,J,_⟩:=DataW.trod_int Tryz.underlying3 (show DataW.trod _ Tryz.prog W 0 _ _ n 3 _=some y1 from A);obtain⟨z2,z,M,_⟩:=DataW.trod_int Tryz.underlying3 (show DataW.trod _ Tryz.prog W 0 _ _ n 3 _=some y2 from E);have I:z1=bF k:=by have:=hz.2.1;rw[J] at this;simpa using this
   have K:z2=ec k:=by have:=hz.2.2.1;rw[M] at this;simpa using this
   rw[I] at B;rw[K] at z;exact⟨kU (by omega) B,kU (by omega) z⟩
 refine⟨?_,fun k i=>?_⟩
 ·have D:=World.var?_cell c f 1
  have:=(j 0 (by omega)).1;simp only[Nat.zero_mul,Nat.zero_add,Array.getElem?_toList] at this;rw[this] at D;rcases Nat.lt_or_ge 0 W.heap.size with u | u
  ·exact u
  ·simp[World.cell?,Array.getElem?_eq_none u] at D
 ·have c1:=World.var?_cell c f (k*5+1)
  have c2:=World.var?_cell c f (k*5+2);have b:=j k i;simp only[Array.getElem?_toList] at b;exact⟨c1.trans b.1,c2.trans b.2⟩
theorem xx (H:Type)(enc:TypeId × Value->H)(W:World)(m:Nat)(args:Array Value)(y N:List (DataW H))(c:List MemPlace)
  (d:∀ (j:Nat) t v,Tryz.f6.params[j]?=some t->args[j]?=some v->Value.okWide Tryz.prog W .any m t v)
  (C:DataW.Whole enc Tryz.prog Tryz.f6.params.toList Rows.fnNamesSpec.vars false W args.toList y N c) (hL:laidMetH Tryz.prog Rows.fnNamesRow.laid W) :
  Calls Tryz.prog 6 args W fun e z=>∃ v,e=.returned v/\Rows.fnNamesSpec.post enc Tryz.prog Tryz.f6 false true false false W args v z:=by
 have i:=C;obtain⟨p,q,s,K,rfl,hfz,hnd⟩:=C;have B:DataW.TrodAll enc Tryz.prog W 0 (fun _=>true) true Tryz.f6.params.toList args.toList y p:=s;rw[Tryz.params6] at B d;obtain⟨r,vs0,d0,ds0,I,q0,hargs,rfl,rfl,A,r0⟩:=trodAll_cons B;obtain⟨rfl,rfl,rfl⟩:=trodAll_nil r0;obtain rfl:args=#[r]:=by cases args;simp_all
 obtain⟨g,t,M,fuel,dg,pg,rfl,l,o,J,D,rfl⟩:=trodVars_one K;have k:=i.lt;obtain⟨a,n,cap,rfl,hn,L,G⟩:=tR (d 0 22 r rfl rfl) A;refine(vj a n cap W hn L G (table hL)).mono fun e z ⟨E,f⟩=>?_;subst E;refine⟨_,rfl,_,_,_,[],I++[],MemPlace.row ⟨g,0,none⟩ M.size++pg,i,?_,?_,?_,f.frame _,fun h=>by cases h⟩
 ·exact trodAll_cons_mk (shut_bool Tryz.underlying4 _) trodAll_mk0
 ·exact trodAll_cons_mk (Below.trod laidOut (by kernel_rfl) (of_decide_eq_true (by kernel_rfl)) A f (fun x b=>k x (by simp[b]))) trodAll_mk0
 ·have e:t=251:=by rw[Option.some.inj (l.symm.trans gRows)] at o;exact Option.some.inj (o.symm.trans tRows)
  subst e;have u:∀ x∈pg,x.block<W.heap.size:=fun x b=>k x (by simp[b])
  exact trodVars_mk1 l o (Joins.var_stays l J f ly)
   (DataW.trod_stays (kids_book laidOut (by kernel_rfl)) (book_sized (by kernel_rfl)) (fun h=>by cases h) ⟨of_decide_eq_true (by kernel_rfl),book_self 251⟩ D (fun x b=>f.same (u x b)) (fun x b=>by simpa using u x b))
abbrev zb:Array Value:=#[.slice none 0 0]
theorem lifted (os:Os)(b:os.Started)(H:Type)(enc:TypeId × Value->H)(F:Stop.Interp):ReturnsInHanded {} Tryz.checked os 6 .any ((OpenSpec.ofChange Rows.fnNamesSpec).preRow enc Tryz.prog Tryz.f6 Rows.fnNamesRow.domain false Rows.fnNamesRow.laid) (((OpenSpec.ofChange Rows.fnNamesSpec).at F).post enc Tryz.prog Tryz.f6 false true false false):=by
 refine returnsInHanded_of_row (C:=Tryz.checked) (s:=OpenSpec.ofChange Rows.fnNamesSpec) own b (by kernel_rfl) Tryz.func6
  (witness_row_at (enc:=enc) (C:=Tryz.checked) false
   ({ World.holding Tryz.prog os ⟨#[],#[],[]⟩ with heap:=(World.holding Tryz.prog os ⟨#[],#[],[]⟩).heap.modify 0 fun
   | .cells _ t frozen=>.cells #[.string ⟨#[]⟩,.int .i64 0,.int .i64 0,.int .i64 0,.int .i64 0,.string ⟨#[108,105,116]⟩,.int .i64 2000,.int .i64 0,.int .i64 0,.int .i64 1,.string ⟨#[99,97,116]⟩,.int .i64 0,.int .i64 0,.int .i64 2,.int .i64 1,.string ⟨#[99,117,116]⟩,.int .i64 0,.int .i64 2000,.int .i64 1,.int .i64 1,.string ⟨#[114,101,115,116]⟩,.int .i64 0,.int .i64 2000,.int .i64 1,.int .i64 1,.string ⟨#[119,111,114,100]⟩,.int .i64 0,.int .i64 2000,.int .i64 1,.int .i64 1,.string ⟨#[115,97,109,101]⟩,.int .i64 0,.int .i64 0,.int .i64 2,.int .i64 1,.string ⟨#[100,117,112]⟩,.int .i64 0,.int .i64 0,.int .i64 1,.int .i64 2,.string ⟨#[115,119,97,112]⟩,.int .i64 0,.int .i64 0,.int .i64 2,.int .i64 2,.string ⟨#[100,114,111,112]⟩,.int .i64 0,.int .i64 0,.int .i64 1,.int .i64 0,.string ⟨#[106,117,109,112]⟩,.int .i64 0,.int .i64 200,.int .i64 0,.int .i64 0,.string ⟨#[117,110,108,101,115,115]⟩,.int .i64 0,.int .i64 200,.int .i64 1,.int .i64 0,.string ⟨#[97,115,107]⟩,.int .i64 0,.int .i64 0,.int .i64 1,.int .i64 1,.string ⟨#[104,97,115]⟩,.int .i64 0,.int .i64 0,.int .i64 1,.int .i64 1,.string ⟨#[102,97,105,108]⟩,.int .i64 0,.int .i64 0,.int .i64 1,.int .i64 0,.string ⟨#[101,110,100]⟩,.int .i64 0,.int .i64 0,.int .i64 1,.int .i64 0] t frozen
   | o=>o }:World)
   zb rfl (by kernel_rfl) (by kernel_rfl) (by kernel_rfl)
   (OpenSpec.preRow_of_cond 8 (x:=([.nil],[Rows.laid_loop_example_kilndeed_impl_rows],MemPlace.row ⟨0,0,none⟩ 80)) (by kernel_rfl) (by kernel_rfl) (fun k h=>by cases h) (by kernel_rfl) (laidMet_of_run' 8 (by kernel_rfl) (by kernel_rfl)))) ?_
 intro W d args g i c f j _ _ _ hL _ _;exact xx H enc W d args g i c f j hL
theorem said:Rows.FnNamesSaid :=
 OpenClaim.holds_of_cond 6 Tryz.f6 rfl rfl rfl rfl rfl rfl rfl ⟨rfl,rfl,rfl,rfl,rfl⟩ rfl rfl rfl rfl rfl (by kernel_rfl) Tryz.func6 facts
  (of_decide_eq_true (by kernel_rfl)) (by unfold Func.isWrapper;first | (rw[if_pos (by decide +kernel)];kernel_rfl) | (rw[if_neg (by decide +kernel)];exact⟨rfl,rfl⟩))
  (fun os b H enc _ F=>by rw[OpenClaim.pre_eq_preRow];exact lifted os b H enc F)
theorem plain (f:FuncId)(fn:Func)(d:Tryz.pinned.checked.prog.funcNamed Rows.fnNamesRow.func=some f)(b:Tryz.pinned.checked.prog.funcs[f]?=some fn):true=Tryz.pinned.checked.prog.looks []/\∀ (j:Nat) t,fn.params[j]?=some t->Tryz.pinned.checked.prog.wantsStandIn t=false:=by
 obtain rfl:f=6:=Option.some.inj ((show Tryz.prog.funcNamed Rows.fnNamesRow.func=some 6 by kernel_rfl).symm.trans d) |>.symm;obtain rfl:fn=Tryz.f6:=(Option.some.inj (Tryz.func6.symm.trans b)).symm;refine⟨by kernel_rfl,fun j t c=>?_⟩;rw[Tryz.params6] at c;obtain rfl:t=22:=by simpa using Array.mem_of_getElem? c
 exact(show Tryz.prog.wantsStandIn 22=false by kernel_rfl)
theorem card:Rows.FnNamesCardSaid :=
 Claim7.holds_tied_plain_at .later [] _ _ _ _ said (fun _ h=>by cases h) (by kernel_rfl) (fun _ h=>by cases h) fnNames_row_tie rfl ⟨rfl,rfl⟩ (by kernel_rfl) rfl plain (by kernel_rfl)
end Go.Proofs.YtkophfgkcijjkaaGreatDoor.Nnc
namespace Go.Proofs.YtkophfgkcijjkaaGreatDoor
theorem fnNames_card:Rows.FnNamesCardSaid:=Nnc.card
#print axioms fnNames_card
end Go.Proofs.YtkophfgkcijjkaaGreatDoor
