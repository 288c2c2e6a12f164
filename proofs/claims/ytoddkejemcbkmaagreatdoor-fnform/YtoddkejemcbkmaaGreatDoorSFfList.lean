import Derived.Test.YtoddkejemcbkmaaGreatDoorSFfLaw
import Derived.Test.YtoddkejemcbkmaaGreatDoorTie
import Derived.ProofKit
import Derived.OpenShut
import Derived.Deep.DeepHandedRow
import Derived.Lib.LaidTab
import Derived.Stop.LaidErr
import Derived.Stop.LaidTwo
set_option linter.unusedSimpArgs false
open Option renaming some->T
open Go renaming IntKind.i64->I,World->M,Value->ZC,TypeId->ZH,Proofs.Tryz.prog->Pg
namespace Go.Proofs.YtoddkejemcbkmaaGreatDoor.Ffc
open Go.Proofs.Tryz Go.ChangeShapes Go.WideShapes Go.ChangeAt RowKit Go.Deep Vp
variable {W:M}{n:String}{sp:Nat->Bool}{p:List MemPlace}{r:List (String × DataW Unit)}{g:Nat}
theorem own:ownKnob Pg.godebug=none:=by kernel_rfl
theorem laidOut:laidOutB Pg=true:=by kernel_rfl
abbrev pi:String:="loop.example/kilndeed/impl.rows"
theorem gRows:Pg.globalNamed pi=T 1:=by kernel_rfl
theorem tRows:(Pg.globals[1]?).map (·.type)=T 200:=by kernel_rfl
theorem tPow:(Pg.globals[3]?).map (·.type)=T 220:=by kernel_rfl
theorem Fv:Pg.cellsOf 220=20:=by kernel_rfl
theorem Fw:Pg.cellsOf 117=1:=by kernel_rfl
theorem Jl:Pg.cellsOf 199=5:=by kernel_rfl
theorem Jm:Pg.cellsOf 3=1:=by kernel_rfl
theorem ID:Pg.cellsOf 9=1:=by kernel_rfl
theorem cES:Pg.cellsOf 260=1:=by kernel_rfl
theorem IE:∀k:Nat,k<16->∃(t p:DataW Unit) (L:List (DataW Unit)),Rows.laid_loop_example_kilndeed_impl_rows=.agg L/\L[k]?=T (.agg [.lit (.string (word k)),.lit (.int I (aF k)),.lit (.int I (bN k)),t,p]):=by intro k hk;rcases(show k=0∨k=1∨k=2∨k=3∨k=4∨k=5∨k=6∨k=7∨k=8∨k=9∨k=10∨k=11∨k=12∨k=13∨k=14∨k=15 by omega) with rfl|rfl|rfl|rfl|rfl|rfl|rfl|rfl|rfl|rfl|rfl|rfl|rfl|rfl|rfl|rfl;all_goals exact⟨_,_,_,rfl,rfl⟩
theorem jW{b:List ZC}{o j:Nat}{v:ZC}(c:j<5)(h:(((b.drop o).take 5).drop j).take 1=[v]):b[o+j]?=T v:=by
 have h2:((((b.drop o).take 5).drop j).take 1)[0]?=T v:=by rw[h];rfl
 simpa[U5,c] using h2
theorem xO{enc:ZH × ZC->Unit}{u:Bool}{q:Nat}{c:Array ZC}(f:W.var? Pg pi=T c)
  (B:DataW.trod enc Pg W 0 sp u q 200 c.toList=T (Rows.laid_loop_example_kilndeed_impl_rows,p)):Tab W/\TabW W:=by
 obtain⟨xs,m,_,s,_,hn,j⟩:=DataW.trod_array underlying200 B;rw[Jl] at j;have i:∀k,k<16->c.toList[k*5+0]?=T (.string ⟨(word k).toArray⟩)/\c.toList[k*5+1]?=T (.int I (aF k))/\c.toList[k*5+2]?=T (.int I (bN k)):=by
  intro k g;obtain⟨t,p,L,hL,o⟩:=IE k g;rw[hL] at s;simp only[MG,DataW.agg.injEq] at s;have b:=j k g;rw[s.1,MK] at o;obtain⟨y,H,l⟩:=MN.1 o;rw[H] at b;obtain⟨h,n,_,E,_,_,x⟩:=DataW.trod_struct underlying199 b;have hz:h.map (·.1)=[.lit (.string (word k)),.lit (.int I (aF k)),.lit (.int I (bN k)),t,p]:=by rw[E] at l;simpa using l
  have D:DataW.trod _ Pg W 0 _ _ n 9 ((((c.toList.drop (k*5)).take 5).drop 0).take (Pg.cellsOf 9))=h[0]?:=x 0 _ rfl;have h1:DataW.trod _ Pg W 0 _ _ n 3 ((((c.toList.drop (k*5)).take 5).drop 1).take (Pg.cellsOf 3))=h[1]?:=x 1 _ rfl;have h2:DataW.trod _ Pg W 0 _ _ n 3 ((((c.toList.drop (k*5)).take 5).drop 2).take (Pg.cellsOf 3))=h[2]?:=x 2 _ rfl;rw[Jm] at h1 h2;rw[ID] at D;match h,hz with
  |[y0,y1,y2,y3,y4],hz =>
   simp only[MX,MZ,List.cons.injEq,and_true] at hz;obtain⟨K,z,ZO,_⟩:=DataW.trod_string IN (show DataW.trod _ Pg W 0 _ _ n 9 _=T y0 from D);obtain⟨z1,C,G,_⟩:=DataW.trod_int NM (show DataW.trod _ Pg W 0 _ _ n 3 _=T y1 from h1);obtain⟨z2,A,ZQ,_⟩:=DataW.trod_int NM (show DataW.trod _ Pg W 0 _ _ n 3 _=T y2 from h2);have O:K=⟨(word k).toArray⟩:=by have:=hz.1;rw[ZO] at this;simp only[DataW.lit.injEq,Lit.string.injEq] at this;rw[<-this]
   have ZN:z1=aF k:=by have:=hz.2.1;rw[G] at this;simpa using this
   have ZP:z2=bN k:=by have:=hz.2.2.1;rw[ZQ] at this;simpa using this
   rw[O] at z;rw[ZN] at C;rw[ZP] at A;exact⟨jW (by omega) z,jW (by omega) C,jW (by omega) A⟩
 refine⟨⟨?_,λk g=>?_⟩,λk g=>?_⟩;{have F:=TA gRows f 1;have:=(i 0 (by omega)).2.1;simp only[US,F6,NJ] at this;rw[this] at F;rcases N1 1 W.heap.size with r|r;{exact r};{simp[World.cell?,OT r] at F}};{have c1:=TA gRows f (k*5+1);have c2:=TA gRows f (k*5+2);have b:=i k g;simp only[NJ] at b;exact⟨c1.trans b.2.1,c2.trans b.2.2⟩};{have c0:=TA gRows f (k*5);have b:=i k g;simp only[NJ,NS] at b;exact c0.trans b.1}
theorem IF{enc:ZH × ZC->Unit}{c:Bool}{b:Nat}{f:Array ZC}(g:W.var? Pg "internal/strconv.uint64pow10"=T f)
  (h:DataW.trod enc Pg W 0 sp c b 220 f.toList=T (Rows.laid_internal_strconv_uint64pow10,p)):Pow W:=by
 have e:=Lib.cells_of_tab (k:=.u64) (zs:=Lib.pow10Tab) U3 U2 Fw Fv h;show W.var? Pg _=T _;rw[g,<-e]
theorem mz:Pg.globalNamed "loop.example/kilndeed/impl.errNoTarget"=T 2:=by kernel_rfl
theorem mB:(Pg.globals[2]?).map (·.type)=T 69:=by kernel_rfl
theorem su:Pg.globalNamed "loop.example/kilndeed/impl.errWord"=T 0:=by kernel_rfl
theorem sw:(Pg.globals[0]?).map (·.type)=T 69:=by kernel_rfl
theorem nr:Pg.globalNamed "loop.example/kilndeed/impl.errOperand"=T 6:=by kernel_rfl
theorem nu:(Pg.globals[6]?).map (·.type)=T 69:=by kernel_rfl
theorem ou:Pg.globalNamed "loop.example/kilndeed/impl.errNumber"=T 4:=by kernel_rfl
theorem ox:(Pg.globals[4]?).map (·.type)=T 69:=by kernel_rfl
theorem qk:Pg.globalNamed "loop.example/kilndeed/impl.errQuote"=T 5:=by kernel_rfl
theorem qn:(Pg.globals[5]?).map (·.type)=T 69:=by kernel_rfl
theorem qp:Pg.globalNamed "loop.example/kilndeed/impl.errBound"=T 7:=by kernel_rfl
theorem qq:(Pg.globals[7]?).map (·.type)=T 69:=by kernel_rfl
theorem zG:Pg.globalNamed "strconv.ErrRange"=T 12:=by kernel_rfl
theorem zH:(Pg.globals[12]?).map (·.type)=T 69:=by kernel_rfl
theorem wP:Pg.globalNamed "strconv.ErrSyntax"=T 11:=by kernel_rfl
theorem wQ:(Pg.globals[11]?).map (·.type)=T 69:=by kernel_rfl
theorem star: "*"++"errors.errorString"="*errors.errorString":=by decide
theorem Jb (u:ZH)(h:Pg.typeName? 3 u=T "*errors.errorString"):u=258 :=
 typeName_ptr_named (nm:="errors.errorString") (by rw[star];kernel_rfl) (by kernel_rfl) (by decide) u (by rw[star];exact h)
theorem sA{d:DataW Unit}(h:laidMet Pg ((n,d)::r) W):∃g t c b p,Pg.globalNamed n=T g/\(Pg.globals[g]?).map (·.type)=T t/\W.var? Pg n=T c/\DataW.trod (λ_=>()) Pg W 0 (λ_=>true) false b t c.toList=T (d,p):=by obtain⟨ps,⟨g,t,c,b,p,q,h1,h2,h3,h4,_⟩,_⟩:=h;exact⟨g,t,c,b,p,h1,h2,h3,h4⟩
theorem Jc{x:ZC}(c:Pg.globalNamed n=T g)(f:W.var? Pg n=T #[x]):g<W.heap.size/\W.cell? ⟨g,0,none⟩=T x:=by
 have b:W.cell? ⟨g,0,none⟩=T x:=by simpa using TA c f 0
 refine⟨?_,b⟩;rcases N1 g W.heap.size with h|h;{exact h};{simp[World.cell?,OT h] at b}
theorem nw{text:List UInt8}(h:laidMet Pg ((n,.iface "*errors.errorString" (.ptr (.agg [.lit (.string text)])))::r) W)(b:Pg.globalNamed n=T g)(c:(Pg.globals[g]?).map (·.type)=T 69):EV W g:=by obtain⟨a,s,f,_⟩:=laid_sentinel h b c underlying69 Jb underlying258 underlying260 rfl rfl IN cES ID;obtain⟨h1,h2⟩:=Jc b f;exact⟨h1,_,_,h2⟩
theorem IG{b:Array ZC}(c:W.var? Pg "internal/strconv.uint64pow10"=T b):3<W.heap.size:=by
 rcases N1 3 W.heap.size with h|h;{exact h};{simp[World.var?,gPow,OT h] at c}
def sB:List (String × DataW Unit):=[("math/bits.deBruijn32tab",Rows.laid_math_bits_deBruijn32tab),("math/bits.deBruijn64tab",Rows.laid_math_bits_deBruijn64tab),("internal/strconv.uint64pow10",Rows.laid_internal_strconv_uint64pow10),("strconv.ErrRange",Rows.laid_strconv_ErrRange),("strconv.ErrSyntax",Rows.laid_strconv_ErrSyntax),("loop.example/kilndeed/impl.rows",Rows.laid_loop_example_kilndeed_impl_rows),("loop.example/kilndeed/impl.errWord",Rows.laid_loop_example_kilndeed_impl_errWord),("loop.example/kilndeed/impl.errOperand",Rows.laid_loop_example_kilndeed_impl_errOperand),("loop.example/kilndeed/impl.errNumber",Rows.laid_loop_example_kilndeed_impl_errNumber),("loop.example/kilndeed/impl.errQuote",Rows.laid_loop_example_kilndeed_impl_errQuote),("loop.example/kilndeed/impl.errBound",Rows.laid_loop_example_kilndeed_impl_errBound),("loop.example/kilndeed/impl.errNoTarget",Rows.laid_loop_example_kilndeed_impl_errNoTarget)]
theorem zI (h:laidMetH Pg Rows.fnFormRow.laid W):laidMet Pg sB W:=by rw[MakeChecks.laidMetH_plain _ _ _ (by kernel_rfl)] at h;exact h
theorem tables (h:laidMetH Pg Rows.fnFormRow.laid W):Lay W/\EV W 2:=by have s:=zI h;unfold sB at s;have h2:=s.tail.tail;obtain⟨g2,t2,cs2,f2,p2,t,l,g,m⟩:=sA h2;obtain rfl:=BO (gPow.symm.trans t);obtain rfl:=BO (tPow.symm.trans l);have h3:=h2.tail;have h4:=h3.tail;have i:=h4.tail;obtain⟨g5,t5,cs5,f5,p5,o,q,f,b⟩:=sA i;obtain rfl:=BO (gRows.symm.trans o);obtain rfl:=BO (tRows.symm.trans q);have r:=i.tail;have p:=r.tail;have u:=p.tail;have n:=u.tail;have c:=n.tail;have j:=c.tail;exact⟨⟨(xO f b).2,(xO f b).1,nw n qk qn,nw u ou ox,nw r su sw,nw p nr nu,nw c qp qq,nw h4 wP wQ,nw h3 zG zH,IF g m,IG g⟩,nw j mz mB⟩
