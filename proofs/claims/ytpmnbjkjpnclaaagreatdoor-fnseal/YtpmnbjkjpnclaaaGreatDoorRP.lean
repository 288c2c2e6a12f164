import Derived.Test.YtpmnbjkjpnclaaaGreatDoorRO
import Derived.Deep.AppendSrc
import Derived.Deep.Upon
import Derived.Lib.ConvBytes
import Derived.Lib.BufferMore
set_option maxRecDepth 100000
set_option maxHeartbeats 4000000
open Go renaming Addr.mk->Q,Value.slice->Z,Value.string->U,Value.int->N,Obj.cells->J,IntKind.i64->I,World->M,Value->ZC,Ending.returned->ZF,Proofs.Tryz.prog->Pg
open Option renaming none->Y,some->T
open Bool renaming true->ZG
namespace Go.Proofs.YtpmnbjkjpnclaaaGreatDoor.Vp
open RowKit
variable {w:M}{B b:Nat}{l:List UInt8}{rest:List Oper}{o:Oper}{a:Act}{ZN:Exit->Act->M->Prop}
def MB (w:M)(c:Nat)(v:ZC)(l:List UInt8):Prop :=
 ∃g cap b fz,v=Z (T (Q g 0 Y)) l.length cap/\c<=g/\w.heap[g]?=T (J b 5 fz)/\(fz=(0,0)∨fz=(cap,cap+1))/\l.length<=cap/\cap<=maxLen/\b.size=cap/\∀j:Nat,j<l.length->b[j]?=(Lib.byteCells l)[j]?
theorem MB.aa{c:M}{v:ZC}(h:MB w b v l)(hb:Below B w c)(i:w.heap.size<=B):MB c b v l:=by obtain⟨g,cap,f,fz,h1,h2,h3,r⟩:=h;exact⟨g,cap,f,fz,h1,h2,by rw[hb.block g (lj (eT.1 h3).1 i)];exact h3,r⟩
theorem MB.lt{v:ZC}(h:MB w b v l):∀k,v.ownBlock=T k->b<=k/\k<w.heap.size:=by obtain⟨g,cap,cur,fz,rfl,h2,h3,r⟩:=h;intro k c;simp[Value.ownBlock] at c;subst c;exact⟨h2,(eT.1 h3).1⟩
theorem setCells_at (g:Nat)(t:TypeId)(fz:Nat × Nat):∀(f:List ZC) (o:Nat) (c:Array ZC) (w:M),w.heap[g]?=T (J c t fz)->o+f.length<=c.size ->
  ∃b,(w.setCells g o f).heap[g]?=T (J b t fz)/\b.size=c.size/\(∀j,j<o->b[j]?=c[j]?)/\∀j,j<f.length->b[o+j]?=f[j]?
 |[],o,c,w,hg,_=>⟨c,hg,rfl,λ_ _=>rfl,λj h=>absurd h (PS _)⟩
 |v::r,o,c,w,hg,hl=>by
  simp only[eL] at hl;obtain⟨b,h1,h2,h3,h4⟩:=setCells_at g t fz r (o+1) (c.setIfInBounds o v) (w.setCell (Q g o Y) v) (Lib.heap_setCell_same hg v) (by simp;omega);refine⟨b,h1,by simpa using h2,λj h=>?_,λj h=>?_⟩
  ·rw[h3 j (by omega)]
   simp[Array.getElem?_setIfInBounds];omega
  ·cases j with
   |zero =>rw[P6,h3 o (by omega)];simp[Array.getElem?_setIfInBounds];omega
   |succ j =>simp only[eL] at h;have:=h4 j (by omega);rw[show o+(j+1)=o+1+j by omega,this];simp
theorem mN (g:Nat):∀(b:List ZC) (o:Nat) (w:M),(w.setCells g o b).os=w.os/\(w.setCells g o b).tape=w.tape/\(w.setCells g o b).output=w.output/\(w.setCells g o b).heap.size=w.heap.size
 |[],_,_=>⟨rfl,rfl,rfl,rfl⟩
 |v::r,o,w=>by obtain⟨h1,h2,h3,h4⟩:=mN g r (o+1) (w.setCell (Q g o Y) v);exact⟨h1,h2,h3,by rw[show(w.setCells g o (v::r)).heap.size=((w.setCell (Q g o Y) v).setCells g (o+1) r).heap.size from rfl,h4];simp⟩
theorem BR (w:M)(m:Nat)(ty tx:TypeId)(v:ZC)(l:List UInt8)(h:MB w m v l)(x:ZC)(b:List UInt8)(ZN:Src Pg 1 tx x b.length (Lib.byteCells b) w)(hb:l.length+b.length<=140737488355328)(t:m<=w.heap.size):∃ZM D,(Builtin.append_ #[22,tx] ty #[v,x]).run Pg w=.ok ZM D/\MB D m ZM (l++b)/\w.grownBy D v.ownBlock:=by
 obtain⟨i,hi,O,c,S⟩:=OB yU;obtain⟨g,cap,r,fz,rfl,R,q,A,hlc,L,hcs,f⟩:=h;have s:=PE l;have E:=PE b;have p:Lib.byteCells (l++b)=Lib.byteCells l++Lib.byteCells b:=by simp[Lib.byteCells]
 by_cases o:l.length+b.length<=cap
 ·have ZJ:∀j,j<(Lib.byteCells b).length->(w.cell? (Q g (0+l.length*i.size+j) Y)).isSome=ZG:=by
   intro j n;rw[c];have:l.length+j<r.size:=by omega
   simp[World.cell?,q,this]
  have X:∀j,j<(Lib.byteCells b).length->w.frozen? (Q g (0+l.length*i.size+j) Y)=false:=by
   intro j n;rw[c];rcases A with rfl|rfl;{simp[World.frozen?,q]};{simp[World.frozen?,q];omega}
  have y:=run_append_room_src (P:=Pg) w 22 tx ty 5 i IS hi g 0 l.length cap x b.length (Lib.byteCells b) (by rw[c];exact ZN) o ZJ X;have V:0+l.length*i.size=l.length:=by rw[c];omega
  rw[V] at y;obtain⟨F,W,k2,ZK,ZL⟩:=setCells_at g 5 fz (Lib.byteCells b) l.length r w q (by omega);obtain⟨r1,r2,r3,r4⟩:=mN g (Lib.byteCells b) l.length w;refine⟨_,_,y,⟨g,cap,F,fz,by rw[cM],R,W,A,by rw[cM];exact o,L,by omega,λj n=>?_⟩,⟨r1,r2,r3,by omega,λk ZQ ZO=>World.heap_setCells_other w g l.length (Lib.byteCells b) ZQ (λe=>ZO (by simp[Value.ownBlock,e]))⟩⟩;rw[p];rw[cM] at n;by_cases B:j<l.length;{rw[ZK j B,f j B,OP (by omega)]};{have:=ZL (j - l.length) (by omega);rw[show l.length+(j - l.length)=j by omega] at this;rw[this,IX (by omega),s]}
 ·have z:∀j u,(Lib.byteCells l)[j]?=T u->w.drew.cell? (((Q g 0 Y):Addr).add j)=T u:=by
   intro j u C;have n:j<l.length:=by
    rcases PR j l.length with ZP|ZP;{exact ZP};{rw[OT (by omega)] at C;cases C}
   have h1:=f j n;rw[C] at h1;have K:w.drew.heap[g]?=T (J r 5 fz):=q;have G:((Q g 0 Y):Addr).add j=(Q g j Y):=by unfold Addr.add;split<;>simp_all
   rw[G];simp only[World.cell?,K];exact h1
  have H:=run_firstCells_some (P:=Pg) w.drew i.size l.length (Q g 0 Y) l.length cap (Lib.byteCells l) (by rw[c,s];omega) z;have hm:l.length+b.length<=maxLen:=by unfold maxLen;omega
  have y:=run_append_grow_src (P:=Pg) w 22 tx ty 5 i (N .u8 0) IS hi O (T (Q g 0 Y)) l.length cap (Lib.byteCells l) H x b.length (Lib.byteCells b) (by rw[c];exact ZN) (by omega) (by omega) (by rw[S];exact growslice_fits (by omega) (by omega));refine⟨_,_,y,⟨w.heap.size,_,_,(0,0),by rw[cM],t,nL w.drew _,.inl rfl,by rw[cM];exact grownCap_ge w _ cap _,XB w _ cap _ hm,?_,λj n=>?_⟩,⟨rfl,rfl,rfl,by simp,λk ZQ _=>XP w.drew _ k ZQ⟩⟩;{have ZR:(Value.int IntKind.u8 0).cells.size=1:=rfl;have hge:=grownCap_ge w (l.length+b.length) cap 5;simp only[Array.size_append,CV,cM,size_zeroCells,ZR,s,E];omega};{rw[p];rw[cM] at n;rw[UB (by simp;omega)];simp}
theorem BU{i:Array Oper}(n:o.guard=Y)(sl x:Operand)
  (u:o.op=.call { callee:=.builtin .append,args:=#[sl,x],argTypes:=#[22,9] }) (b:Nat) (v:ZC) (l:List UInt8) (q:a.eval sl=v) (m:MB w b v l)
  (s:ByteArray) (r:a.eval x=U s) (hb:l.length+s.size<=140737488355328) (f:b<=w.heap.size)
  (h:∀g c,MB c b g (l++s.data.toList)->w.grownBy c v.ownBlock->wpList Pg i ZN rest (a.put o.dst g) c):wpList Pg i ZN (o::rest) a w:=by
 refine wpList_plain n λK p=>?_;have j:Src Pg 1 9 (U s) s.data.toList.length (Lib.byteCells s.data.toList) w:=by
  have h1:=Src.ofString (P:=Pg) w (tx:=9) F3 s;have e:s.data.toList.length=s.size:=by simp
  rw[e];exact h1
 obtain⟨g,c,t,h2,h3⟩:=BR w b o.type 9 v l m (U s) s.data.toList j (by have e:s.data.toList.length=s.size:=(by simp);omega) f;unfold Oper.wp execOp;simp only[u,resolve,invoke,builtin,WO,WP,TC,UH,PU,PX,q,r,t];exact p _ _ (h g c h2 h3)
theorem Kg{q:Array Oper}(t:o.guard=Y)(sl x:Operand)
  (C:o.op=.call { callee:=.builtin .append,args:=#[sl,x],argTypes:=#[22,22] }) (f:Nat) (v:ZC) (l:List UInt8) (z:a.eval sl=v) (s:MB w f v l)
  (g:Addr) (c:Nat) (b:List UInt8) (A:a.eval x=Z (T g) b.length c) (m:∀j u,(Lib.byteCells b)[j]?=T u->w.cell? (g.add j)=T u) (hb:l.length+b.length<=140737488355328) (n:f<=w.heap.size)
  (h:∀p i,MB i f p (l++b)->w.grownBy i v.ownBlock->wpList Pg q ZN rest (a.put o.dst p) i):wpList Pg q ZN (o::rest) a w:=by
 refine wpList_plain t λK y=>?_;have r:Src Pg 1 22 (Z (T g) b.length c) b.length (Lib.byteCells b) w:=Src.ofSlice (P:=Pg) w IS g b.length c (Lib.byteCells b) (by rw[PE];omega) m (by simp[Lib.byteCells,Value.oneCell']);obtain⟨p,i,B,h2,h3⟩:=BR w f o.type 22 v l s (Z (T g) b.length c) b r hb n;unfold Oper.wp execOp;simp only[C,resolve,invoke,builtin,WO,WP,TC,UH,PU,PX,z,A,B];exact y _ _ (h p i h2 h3)
theorem zD{f:Nat->Deed}{n p:Nat}(h:de f n=ZG)(m:p<n)(a0:Option Addr)(c:Nat)(a1:Option Addr)(b:Nat)(w:M)(j:SlIns w a0 (f p).f (f p).H)(hL:SlLink w a1 (f p).b (f p).D):Calls Pg 136 #[.agg #[U (f p).e,N I (f p).m,N I (f p).E,U (f p).B,Z a0 (f p).f c,Z a1 (f p).b b]] w λe q=>∃v l,e=ZF v/\tY w q (f p) v l:=by
 obtain⟨h1,h2,h3⟩:=lV h p m;have hn:=fT h;rcases h3 with h3|h3|⟨g,c1,c2,c3,c4,c5,i⟩
 {exact ze (f p) a0 c a1 b w h1 h2 h3};{exact wU (f p) a0 c a1 b w h1 h3};{refine zj (f p) a0 c a1 b w j hL h1 h2 c1 c2 c3 c4 c5 (λk g=>?_) g;obtain⟨r,o,q3⟩:=iU (fS i k g);exact⟨r,o,by omega⟩}
theorem BV{v:ZC}{c:List ByteArray}(h:w.ownsRow B 9 1 v c.length (fu c))(n:c≠[]):∃g cap b,v=Z (T (Q g 0 Y)) c.length cap/\B<=g/\w.heap[g]?=T (J b 9)/\∀(j:Nat) (x:ByteArray),c[j]?=T x->b[j]?=T (Value.string x):=by
 rcases h.2 with ⟨_,hz⟩|⟨g,cap,b,o,m,p,hnc,hcm,hcs,f⟩
 {exact absurd (by simpa using hz) n}
 ·refine⟨g,cap,b,o,m,p,λj x l=>?_⟩;have hj:j<c.length:=by
   rcases PR j c.length with i|i;{exact i};{rw[OT i] at l;cases l}
  have h1:(b.toList.take (c.length*1))[j]?=T (U x):=by rw[f];simp[fu,l]
  rw[XC] at h1;rw[p6 (by omega)] at h1;simpa using h1
theorem uI{i:M}{g:Nat}{v:ZC}{c:Array ZC}(m:MB w B v l)(f:w.heap[g]?=T (J c 9))(h:w.grownBy i v.ownBlock):i.heap[g]?=T (J c 9):=by
 have j:g<w.heap.size:=(eT.1 f).1;rw[h.block g j ?_];{exact f};{intro e;obtain⟨g',cap,c',fz,rfl,_,b,_⟩:=m;simp[Value.ownBlock] at e;subst e;rw[f] at b;injection b with h1;injection h1 with _ h2;exact absurd h2 (by decide)}
theorem Hr (w:M)(s:ByteArray)(h:s.size<=maxLen):MB (Lib.bytesWorld w 5 s) w.heap.size (Z (T (Q w.heap.size 0 Y)) s.size (grownCap w s.size 0 5)) s.data.toList:=by
 have e:s.data.toList.length=s.size:=by simp
 have c:=grownCap_ge w s.size 0 5;have b:(Lib.bytesCells w 5 s).size=grownCap w s.size 0 5:=by have f:s.data.size=s.size:=rfl;simp[Lib.bytesCells,f];omega
 refine⟨w.heap.size,grownCap w s.size 0 5,Lib.bytesCells w 5 s,_,by rw[e],n6 _,Lib.bytesWorld_at_new w _ s,.inr (by rw[b]),by rw[e];exact c,XB w _ 0 _ h,b,λj g=>?_⟩;rw[e] at g;have f:s.data.size=s.size:=rfl;unfold Lib.bytesCells;rw[UB (by simp;omega)];simp[Lib.byteCells]
theorem zE{a:M}(h:Below B a w)(s:ByteArray)(b:B<=w.heap.size):Below B a (Lib.bytesWorld w 5 s) :=
 Lib.below_freeze (h.drew.alloc b _) (p:=(Q w.heap.size _ Y)) b _
theorem Hs{v:ZC}(h:MB w B v l):(convert 22 9 v).run Pg w=.ok (U ⟨l.toArray⟩) w:=by
 obtain⟨g,cap,cur,fz,rfl,_,f,_,_,_,_,i⟩:=h;refine P0 _ 22 9 5 (Q g 0 Y) cap l IS N5 F3 ?_;intro j c;have h1:=i j c;have b:((Q g 0 Y):Addr).add j=(Q g j Y):=by unfold Addr.add;split<;>simp_all
 rw[b];simp only[World.cell?,f];simpa[Lib.byteCells,c] using h1
theorem zF{b:List ByteArray}{j:Nat}{X:ByteArray}(h:b[j]?=T X):dK (b.take (j+1))=dK (b.take j)++X.data.toList++[10]:=by rw[T1,h];exact gY _ _
theorem tJ (b:List ByteArray)(j:Nat):(dK (b.take j)).length<=(dK b).length:=by
 have h:dK b=dK (b.take j)++dK (b.drop j):=by unfold dK;rw[<-BO,PQ]
 rw[h,cM];omega
theorem zG{L:Nat}(h:¬ (300000:Int)<(L:Int)):L<=300000:=by omega
theorem Jm{v:ZC}(h:MB w B v l):∃a cap,v=Z a l.length cap:=by obtain⟨g,cap,cur,fz,rfl,_⟩:=h;exact⟨_,_,rfl⟩
theorem ij (a:Option Addr)(n cap:Nat)(f:Nat->Deed)(w:M)(hn:(n:Int)<=1048576)(hv:SlDeed w a n f)(t:∀i,i<n->cV (f i))(aq:∀i,i<n->fk (f i)):Calls Pg 76 #[.agg #[Z a n cap]] w λe w'=>e=ZF (U ⟨(bG f n).toArray⟩)/\Below w.heap.size w w':=by
 have HV:=ae hv;have HM:=ae t;have HZ:=ae aq;clear hv t aq;have y:=ae ((q9 w).alloc ly (J #[Z a n cap] 37));have k0:(w.alloc (J #[Z a n cap] 37)).cell? (Q w.heap.size 0 Y)=T (Z a n cap):=by simp
 have hz:w.heap.size<(w.alloc (J #[Z a n cap] 37)).heap.size:=by simp
 obtain⟨ZM,hT⟩:∃ZM,ZM=bG f n:=⟨_,rfl⟩
 rw[<-hT];have L:=ae (show ZM=if de f n=ZG then (if (aN f n n).length<=300000 then aN f n n else []) else [] from hT);clear hT;go_enter Tryz.func76,Tryz.ntmps76;go_wp2_with fail;generalize w.alloc (J #[Z a n cap] 37)=W at y k0 hz ⊢;refine(EN a n cap f _ hn (HV.aa y ly) HM HZ).mono ?_;rintro e w1 ⟨rfl,ZO⟩;have s:=ae (y.trans (ZO.mono y.size));have k1:=(ZO.cell (p:=(Q w.heap.size 0 Y)) hz).trans k0;have S:w.heap.size<w1.heap.size:=lj hz ZO.size;clear ZO y k0 hz;have HO:=ae (λh:de f n=ZG=>(⟨fT h,h⟩:(1<=n/\n<=400/\aM (bi f) n=-1)/\de f n=ZG));obtain⟨r,hr⟩:∃r,r=de f n:=⟨_,rfl⟩
 rw[<-hr] at L ⊢;have V:=ae hr;clear hr;cases r with
 |false =>
  obtain rfl:ZM=[]:=by have:=L.out;simpa using this
  go_wp2;go_ret;exact⟨rfl,s⟩
 |true =>
  have HF:=ae (show ZM=if (aN f n n).length<=300000 then aN f n n else [] by have:=L.out;simpa using this);obtain⟨⟨hn1,hn4,-⟩,m⟩:=HO.out V.symm;have G:=ae m;have DQ:=ae (ss m);clear L HO HM m V;obtain⟨b,off,rfl,F⟩:=HV.resolve_left (by omega);have HR:=ae (F.aa s ly);clear HV F;have hd:=gX n (by omega);have At:¬ 9223372036854775807<8+(Lib.decDigits n).length:=by omega
  have qr:¬ 9223372036854775807<8+(Lib.decDigits n).length+1:=by omega
  go_wp2_with fail;refine(gE n (by omega) _).mono ?_;rintro e c ⟨rfl,bt⟩;have K:=ae bt;clear bt;have x:=Lib.run_convert_string_bytes (P:=Pg) c 9 22 5 ((⟨#[97,99,99,111,117,110,116,32]⟩:ByteArray)++⟨(Lib.decDigits n).toArray⟩++⟨#[10]⟩) (u:=TypeDesc.string) F3 IS N5;have DE:((⟨#[97,99,99,111,117,110,116,32]⟩:ByteArray)++⟨(Lib.decDigits n).toArray⟩++⟨#[10]⟩).size<=40:=by simp only[IH];have h1:(⟨#[97,99,99,111,117,110,116,32]⟩:ByteArray).size=8:=rfl;have h2:(⟨#[10]⟩:ByteArray).size=1:=rfl;have h3:(⟨(Lib.decDigits n).toArray⟩:ByteArray).size=(Lib.decDigits n).length:=(by simp[ByteArray.size]);omega
  have ZR:=ae (Hr c ((⟨#[97,99,99,111,117,110,116,32]⟩:ByteArray)++⟨(Lib.decDigits n).toArray⟩++⟨#[10]⟩) (by unfold maxLen;omega));have C0:=ae (zE (q9 c) ((⟨#[97,99,99,111,117,110,116,32]⟩:ByteArray)++⟨(Lib.decDigits n).toArray⟩++⟨#[10]⟩) ly);have ET:Hid (((⟨#[97,99,99,111,117,110,116,32]⟩:ByteArray)++⟨(Lib.decDigits n).toArray⟩++⟨#[10]⟩).data.toList=aN f n 0):=by show _=_;simp[aN]
  have k2:=(K.cell (p:=(Q w.heap.size 0 Y)) S).trans k1;have dg:w.heap.size<c.heap.size:=lj S K.size;generalize Lib.bytesWorld c 5 ((⟨#[97,99,99,111,117,110,116,32]⟩:ByteArray)++⟨(Lib.decDigits n).toArray⟩++⟨#[10]⟩)=w3 at x ZR C0;generalize Value.slice (T (Q c.heap.size 0 Y)) ((⟨#[97,99,99,111,117,110,116,32]⟩:ByteArray)++⟨(Lib.decDigits n).toArray⟩++⟨#[10]⟩).size (grownCap c ((⟨#[97,99,99,111,117,110,116,32]⟩:ByteArray)++⟨(Lib.decDigits n).toArray⟩++⟨#[10]⟩).size 0 5)=v3 at x ZR;rw[ET.out] at ZR;clear ET DE;go_wp2;clear x At qr;go_loopw [3,4] (λv i wr=>∃k:Nat,k<=n/\i=N I k/\Hid (MB wr c.heap.size v (aN f n k))/\Hid (Below c.heap.size c wr)) (λ_ i _=>n - (intOf i).toNat);case atStart=>exact⟨0,by omega,rfl,ZR,C0⟩
  case round =>
   obtain⟨k,hk,rfl,o,ZQ⟩:=hrel;have hlk:=DQ.out k hk;have RW:=ae (K.trans (ZQ.mono K.size));have k3:=(ZQ.cell (p:=(Q w.heap.size 0 Y)) dg).trans k2;have hz3:w.heap.size<wr.heap.size:=lj dg ZQ.size;by_cases A:k<n
   ·have hlt2:(k:Int)<n:=by omega
    obtain⟨o0,o1,o2,o3,⟨a0,ph,o4,q4⟩,⟨a1,mv,o5,q5⟩⟩:=(HR.aa RW ly).2 k A;have Q4:=ae (show SlIns wr a0 (f k).f (f k).H from q4);have Q5:=ae (show SlLink wr a1 (f k).b (f k).D from q5);clear q4 q5;go_wp2_with fail;refine(zD G A a0 ph a1 mv _ Q4 Q5).mono ?_;rintro e w5 ⟨v5,g,rfl,l⟩;obtain⟨O,cl,n9,rfl,hbl,ZN,fd⟩:=BV l.i l.ne;have th:=ae ZN;have sm:=ae fd;have ZJ:=ae l.eq;have hfew:=l.few;have B5:=ae (ZQ.trans (l.aq.mono ZQ.size));have O5:=ae (o.aa l.aq ly);have ro:=uv G.out k A;clear l ZN fd o0 o1 o2 o3 o4 o5 k3 o Q4 Q5;go_wp2;go_loopw [3,6] (λv i wr=>∃j:Nat,j<=g.length/\i=N I j/\Hid (MB wr c.heap.size v (aN f n k++dK (g.take j)))/\Hid (Below c.heap.size c wr)/\Hid (wr.heap[O]?=T (J n9 9))) (λ_ i _=>g.length - (intOf i).toNat);case atStart=>exact⟨0,by omega,rfl,by show MB _ _ _ _;simpa[dK] using O5.out,B5,th⟩
    case round =>
     obtain⟨j,hj,rfl,q,E,B⟩:=hrel;have z6:c.heap.size<=wr.heap.size:=E.size;by_cases Bk:j<g.length
     ·obtain⟨X,hX⟩:∃X,g[j]?=T X:=⟨g[j],by simp[Bk]⟩
      have cj:wr.cell? (Q O j Y)=T (U X):=by have h1:=sm.out j X hX;simp only[World.cell?,B.out];exact h1
      have hgz:O<wr.heap.size:=(eT.1 B).1;have hlj2:(j:Int)<g.length:=by omega
      have ZP:=zF hX;have C:(dK (g.take (j+1))).length<=1300000:=p7 (tJ g (j+1)) (by rw[ZJ.out];exact ro);have DH:=ae ZP;have hlx:(dK (g.take j)).length+X.size+1<=1300000:=by rw[ZP] at C;simp only[cM,eL,nX] at C;have:=cF X;omega
      have hsl:=cF X;clear C ZP hX;go_wp2_with (at_builtin;refine BU rfl (.tmp 36) (.tmp 40) rfl c.heap.size _ (aN f n k++dK (g.take j)) (by simp[Act.eval]) q.out X (by simp[Act.eval]) ?h3 z6 ?_);case h3=>simp only[cM];omega
      intro v7 D ZL H;have M7:=ae ZL;have B7:=ae (bg E H z6 (λj e=>(q.lt j e).1));have G7:=ae (uI q B H);have z7:c.heap.size<=D.heap.size:=B7.size;clear ZL H cj;go_wp2_with (at_builtin;refine Kg rfl _ _ rfl c.heap.size _ (aN f n k++(dK (g.take j)++X.data.toList)) rfl ?h1 (Q D.heap.size 0 Y) 1 [10] rfl ?h2 ?h3 ?h4 ?_);case h1=>exact M7.aa (br.alloc ly _) ly
      case h2=>exact λj u hu=>cu D (N .u8 10) _ j u (by simpa[Lib.byteCells] using hu)
      case h3=>simp only[cM,eL,nX];omega
      case h4=>simp;omega
      intro v8 w8 R z;have M8:=ae R;have A7:=ae ((q9 D).alloc ly (J #[N .u8 10] 5));have B8:=ae (bg (B7.alloc z7 _) z (by simp;omega) (λj e=>(M7.lt j e).1));have G8:=ae (uI (M7.aa A7 ly) ((A7.block O (eT.1 G7).1).trans G7) z);clear R z;go_wp2;exact⟨⟨j+1,by omega,by go_num,by show MB _ _ _ _;rw[DH.out];simpa using M8.out,B8,G8⟩,by simp[intOf];omega⟩
     ·obtain rfl:j=g.length:=by omega
      go_wp2;exact⟨⟨k+1,by omega,by go_num,by show MB _ _ _ _;rw[aN,<-ZJ.out];simpa using q.out,E⟩,by simp[intOf];omega⟩
   ·obtain rfl:k=n:=by omega
    obtain⟨av,cv,rfl⟩:=Jm o;have ur:=Hs o.out;generalize ZK:(aN f k k).length=L5 at hlk ur ⊢;have la:=ae ZK;clear ZK;by_cases ld:(300000:Int)<(L5:Int)
    ·obtain rfl:ZM=[]:=by
      have h3:¬ (aN f k k).length<=300000:=by rw[la.out];omega
      rw[HF.out,gM h3]
     go_wp2;go_ret;exact⟨rfl,s.trans (RW.mono s.size)⟩
    ·obtain rfl:ZM=aN f k k:=by
      have h3:(aN f k k).length<=300000:=by rw[la.out];exact zG ld
      rw[HF.out,p6 h3]
     go_wp2;go_ret;exact⟨rfl,s.trans (RW.mono s.size)⟩
