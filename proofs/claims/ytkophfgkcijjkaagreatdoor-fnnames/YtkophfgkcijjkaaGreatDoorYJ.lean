import Derived.Test.YtkophfgkcijjkaaGreatDoorYG
import Derived.Test.YtkophfgkcijjkaaGreatDoorZR
set_option maxRecDepth 100000
set_option maxHeartbeats 8000000
namespace Go.Proofs.YtkophfgkcijjkaaGreatDoor.Vp
open RowKit Go.Sort
theorem ul:(Tryz.prog.info? 4).map (fun i=>(i.zero,i.size,i.bytes))=some (some (.bool false),1,1):=by kernel_rfl
def RowB (w:World)(g n:Nat)(D:Nat->Bool):Prop:=w.rowIs g 4 n (fun j=>.bool (D j))
theorem xP (n:Nat)(hn:n<=1048576)(w:World):(Instr.makeSlice 161 (.int .i64 (n:Int)) (.int .i64 (n:Int))).run Tryz.prog w=.ok (.slice (some ⟨w.heap.size,0,none⟩) n n) (w.alloc (.cells (madeCells #[.bool false] n) 4)) :=
 run_make_row' 161 4 (.bool false) 1 Tryz.underlying161 ul rfl .i64 .i64 n (by omega) (by omega) w
theorem RowB.cell {w:World}{g n:Nat}{D:Nat->Bool}(h:RowB w g n D){i:Nat}(hi:i<n):w.cell? ⟨g,i,none⟩=some (.bool (D i)):=World.rowIs.cell h hi
theorem RowB.frozen {w:World}{g n:Nat}{D:Nat->Bool}(h:RowB w g n D)(i:Nat):w.frozen? ⟨g,i,none⟩=false:=World.rowIs.frozen h i
theorem RowB.lt {w:World}{g n:Nat}{D:Nat->Bool}(h:RowB w g n D):g<w.heap.size:=World.rowIs.lt h
theorem RowB.below {w b:World}{g n B:Nat}{D:Nat->Bool}(h:RowB w g n D)(hb:Below B w b)(c:w.heap.size<=B):RowB b g n D:=World.rowIs.of_block h (hb.block g (lj h.lt c))
theorem RowB.set {w:World}{g n:Nat}{D:Nat->Bool}(h:RowB w g n D)(i:Nat)(v:Bool):RowB (w.setCell ⟨g,i,none⟩ (.bool v)) g n (fun j=>if j=i then v else D j) :=
 (World.rowIs.set h i (.bool v)).congr fun j _=>by by_cases e:j=i<;>simp[e]
theorem RowB.congr {w:World}{g n:Nat}{D E:Nat->Bool}(h:RowB w g n D)(e:∀ j,j<n->D j=E j):RowB w g n E:=World.rowIs.congr h fun j b=>by rw[e j b]
theorem RowStr.bools {w:World}{g n b off m:Nat}{D:Nat->Bool}{F:Nat->ByteArray}(h:RowStr w b off m F)(l:RowB w g n D)(p:Addr)(o:p.block=g)(v:Value):RowStr (w.setCell p v) b off m F:=by
 refine⟨by simpa using h.1,fun i hi=>?_⟩;have k:=h.2 i hi;by_cases e:b=g
 ·subst e
  obtain⟨c,hb,hn,j⟩:=l;have d:w.cell? ⟨b,off+i,none⟩=c[off+i]?:=by simp[World.cell?,hb]
  rw[k] at d;rcases Nat.lt_or_ge (off+i) n with f | f
  ·rw[j _ f] at d
   simp at d
  ·rw[Array.getElem?_eq_none (by omega)] at d
   simp at d
 ·exact(cq (w:=w) (a:=⟨b,off+i,none⟩) (qh w p v b (fun q=>e (q.trans o)))).trans k
def lS:Value->Value->Nat
 | .slice _ m _,.bool true=>if m=0 then 2 else 1
 | _,_=>0
theorem rL (l:List (List UInt8))(x:List UInt8):(bH l x).length≠0:=by have h:=(ed l x x).2 (.inr rfl);intro e;rw[List.length_eq_zero_iff] at e;rw[e] at h;simp at h
section
variable (f:Nat->ar)(t:ByteArray)(n:Nat)
def inD (b:Bool)(k:Nat)(x:Nat):Bool:=bo f t n x && (b || decide (x<k))
def cV (b:Bool)(k j:Nat):Bool:=if b=true then bo f t n k else bX (bo f t n) t (f k) j
def inJ (b:Bool)(k j:Nat)(x:Nat):Bool:=if x=k then cV f t n b k j else inD f t n b k x
def gR (b:Bool)(k:Nat):List (List UInt8):=if b=true then aQ f t n else aQ f t k
def dV (b:Bool)(k j:Nat):List (List UInt8):=if b=true then aQ f t n else if bX (bo f t n) t (f k) j=true then bH (aQ f t k) (f k).name.toList else aQ f t k
end
variable {f:Nat->ar}{t:ByteArray}{n:Nat}
theorem vV {b:Bool}{k:Nat}:∀ x,inD f t n b k x=inJ f t n b k 0 x:=by
 intro x;unfold inJ;split
 ·rename_i e
  subst e;cases b<;>simp[inD,cV,bX]
 ·rfl
theorem nK {b:Bool}{k:Nat}:gR f t n b k=dV f t n b k 0:=by cases b<;>simp[gR,dV,bX]
theorem jN {k:Nat}(hk:k<n)(b:∀ j,j<(f k).linksN->((f k).links j).ask=true->((f k).links j).at_.toNat<k):bX (bo f t n) t (f k) (f k).linksN=bo f t n k:=by rw[ef (show k<k+1 by omega) (show k+1<=n by omega),iX];exact qI b fun i hi=>ef hi (by omega)
theorem xQ {ph:Bool}{k:Nat}(b:k<n)(d:∀ j,j<(f k).linksN->((f k).links j).ask=true->((f k).links j).at_.toNat<k):∀ x,inJ f t n ph k (f k).linksN x=inD f t n ph (k+1) x:=by
 intro x;have c:cV f t n ph k (f k).linksN=bo f t n k:=by
  unfold cV;split
  ·rfl
  ·exact jN b d
 unfold inJ inD;split
 ·rename_i e
  subst e;rw[c];simp
 ·have:decide (x<k)=decide (x<k+1):=by simp only[decide_eq_decide];omega
  rw[this]
theorem vW {ph:Bool}{k:Nat}(b:k<n)(c:∀ j,j<(f k).linksN->((f k).links j).ask=true->((f k).links j).at_.toNat<k):dV f t n ph k (f k).linksN=gR f t n ph (k+1):=by unfold dV gR;rw[jN b c,aQ,ef (show k<k+1 by omega) (show k+1<=n by omega)]
theorem rM {b:Bool}{k j:Nat}(h:cV f t n b k j=true):cV f t n b k (j+1)=true/\dV f t n b k (j+1)=dV f t n b k j:=by
 unfold cV at h ⊢;unfold dV;cases b with
 | true=>exact⟨by simpa using h,rfl⟩
 | false =>
  simp only[Bool.false_eq_true,if_false] at h ⊢;have c:bX (bo f t n) t (f k) (j+1)=true:=by rw[bX,h,Bool.true_or]
  rw[c,h];simp
theorem oG {b:Bool}{k j:Nat}(h:cV f t n b k j=false)(c:ee (bo f t n) t ((f k).links j)=false):cV f t n b k (j+1)=false/\dV f t n b k (j+1)=dV f t n b k j:=by
 unfold cV at h ⊢;unfold dV;cases b with
 | true=>exact⟨by simpa using h,rfl⟩
 | false =>
  simp only[Bool.false_eq_true,if_false] at h ⊢;have d:bX (bo f t n) t (f k) (j+1)=false:=by rw[bX,h,c];rfl
  rw[d,h];simp
theorem lT {b:Bool}{k j:Nat}(m:k<n)(o:j<(f k).linksN)(l:∀ j,j<(f k).linksN->((f k).links j).ask=true->((f k).links j).at_.toNat<k)(h:cV f t n b k j=false)(g:ee (bo f t n) t ((f k).links j)=true):b=false/\cV f t n b k (j+1)=true/\dV f t n b k j=aQ f t k/\dV f t n b k (j+1)=bH (aQ f t k) (f k).name.toList:=by
 have d:b=false:=by
  cases b with
  | false=>rfl
  | true =>
   have c:bo f t n k=false:=by simpa[cV] using h
   rw[<-jN m l] at c;have:=sN c j o;rw[g] at this;simp at this
 subst d;have c:bX (bo f t n) t (f k) j=false:=by simpa[cV] using h
 have i:bX (bo f t n) t (f k) (j+1)=true:=by rw[bX,g,Bool.or_true]
 exact⟨rfl,by simp[cV,i],by simp[dV,c],by simp[dV,i]⟩
theorem lp {ph:Bool}{k j:Nat}(h:cV f t n ph k (j+1)=cV f t n ph k j):∀ x,inJ f t n ph k j x=inJ f t n ph k (j+1) x:=by
 intro x;unfold inJ;split
 ·exact h.symm
 ·rfl
theorem rN {ph:Bool}{k j:Nat}(h:cV f t n ph k (j+1)=true):∀ x,(if x=k then true else inJ f t n ph k j x)=inJ f t n ph k (j+1) x:=by
 intro x;unfold inJ;split
 ·exact h.symm
 ·rename_i e
  rfl
theorem yK {c:Bool}{k j p:Nat}(b:p<k):inJ f t n c k j p=bo f t n p:=by unfold inJ inD;rw[if_neg (by omega)];simp[b]
theorem vX {b:Bool}{k j:Nat}:inJ f t n b k j k=cV f t n b k j:=by simp[inJ]
theorem vY {v g:Value}{p:Option Addr}{m c:Nat}{k:Option Addr}{d i:Nat}{b:Bool}(j:v=.slice p m c)(f:g=.slice k d i)(h:b=true->m=0/\d≠0):lS g (.bool b)<lS v (.bool true):=by
 subst j f;cases b with
 | false=>simp only[lS];split<;>omega
 | true =>obtain⟨l,n⟩:=h rfl;simp[lS,l,n]
theorem lU (a:Option Addr)(n cap:Nat)(f:Nat->ar)(t:ByteArray)(w:World)(hn:(n:Int)<=1048576)(hv:SlDeed w a n f)(ro:∀ i,i<n->cK (f i))(zF:∀ i,i<n->dD (f i)):Calls Tryz.prog 43 #[.agg #[.slice a n cap],.string t] w fun e w'=>∃ b off m c:Nat,e=.returned (.slice (some ⟨b,off,none⟩) m c)/\m=(gi f n t).length/\RowStr w' b off m (nmF (gi f n t))/\Below w.heap.size w w':=by
 have HV:=ae hv;have HM:=ae ro;have HZ:=ae zF;clear hv ro zF;have A0:=ae (((q9 w).alloc ly (.cells #[.slice a n cap] 59)).alloc (by simp) (.cells #[] 9));have k0:((w.alloc (.cells #[.slice a n cap] 59)).alloc (.cells #[] 9)).cell? ⟨w.heap.size,0,none⟩=some (.slice a n cap):=by simp
 have E0:=ae (show RowStr ((w.alloc (.cells #[.slice a n cap] 59)).alloc (.cells #[] 9)) (w.heap.size+1) 0 0 (nmF []) from⟨by simp,fun i hi=>absurd hi (Nat.not_lt_zero _)⟩);obtain⟨T,hT⟩:∃ T,T=gi f n t:=⟨_,rfl⟩
 rw[<-hT];have HE:=ae (show T=if bK f n=true then aQ f t n else [] from hT);clear hT;go_enter Tryz.func43,Tryz.ntmps43;go_wp2_with fail;generalize (w.alloc (.cells #[.slice a n cap] 59)).alloc (.cells #[] 9)=W at A0 k0 E0 ⊢;have hz:w.heap.size<W.heap.size:=by have:=E0.out.1;omega
 refine(lm a n cap f _ hn (HV.out.below A0.out ly) HM.out HZ.out).mono ?_;rintro e u ⟨rfl,z⟩;have Q:=ae (A0.out.trans (z.mono A0.out.size));have E1:=ae (E0.out.below z ly);have k1:=(z.cell (p:=⟨w.heap.size,0,none⟩) hz).trans k0;have V:w.heap.size<u.heap.size:=lj hz z.size;clear z A0 E0 k0 hz;have HO:=ae (fun h:bK f n=true=>(⟨dT h,eX h,ny h⟩:(1<=n/\n<=400/\aG (aZ f) n=-1)/\(∀ p,p<n->(f p).linksN<=200)/\∀ p,p<n->∀ j,j<(f p).linksN->((f p).links j).ask=true->0<=((f p).links j).at_/\((f p).links j).at_.toNat<p/\(f ((f p).links j).at_.toNat).name.toList=((f p).links j).name.toList));generalize bK f n=r at HE HO ⊢;cases r with
 | false =>obtain rfl:T=[]:=HE.out;go_wp2;go_ret;exact⟨w.heap.size+1,0,0,0,rfl,rfl,E1.out,Q.out⟩
 | true =>
  obtain rfl:T=aQ f t n:=HE.out;obtain⟨⟨hn1,hn4,-⟩,hl,aq⟩:=HO.out rfl;have zJ:=ae hl;have HA:=ae aq;have N:=ae (fun p (hp:p<n) j (hj:j<(f p).linksN) (h:((f p).links j).ask=true)=>(aq p hp j hj h).2.1);clear hl aq HE HO HM;obtain⟨b,off,rfl,n9⟩:=HV.out.resolve_left (by omega);have HR:=ae n9;clear HV n9;have zM:=xP n (by omega);have R0:=ae (show RowB (u.alloc (.cells (madeCells #[.bool false] n) 4)) u.heap.size n (inD f t n false 0) from(World.rowIs_made u (.bool false) n 4).congr fun j _=>by simp[inD]);have A1:=ae ((q9 u).alloc ly (.cells (madeCells #[.bool false] n) 4));go_wp2;clear zM;have zN:u.heap.size=u.heap.size:=rfl;generalize u.alloc (.cells (madeCells #[.bool false] n) 4)=W1 at R0 A1 ⊢;obtain⟨g,hg⟩:∃ g,g=u.heap.size:=⟨_,rfl⟩
  rw[<-hg] at R0 ⊢;have HG:=ae hg;clear hg zN;go_loopw [5,7] (fun v ag wr=>∃ (o d:Bool) (B s m D:Nat),ag=.bool d/\v=.slice (some ⟨B,s,none⟩) m D/\Hid (m=(gR f t n o 0).length)/\m<=D/\Hid (RowStr wr B s m (nmF (gR f t n o 0)))/\Hid (RowB wr g n (inD f t n o 0))/\(o=false->d=true)/\(o=true->d=true->m≠0)/\Hid (Below u.heap.size u wr)) (fun v ag _=>lS v ag);case atStart=>exact⟨false,true,w.heap.size+1,0,0,0,rfl,rfl,by show 0=_;simp[gR,aQ],by omega,by show RowStr _ _ _ _ _;simp[gR,aQ];exact E1.out.below A1.out ly,R0.out,fun _=>rfl,(fun h=>by cases h),A1.out⟩
  case round =>
   obtain⟨o,d,B,s,m,D,rfl,rfl,HM,zI,HK,zK,bt,qr,HB⟩:=hrel;have k2:=(HB.out.cell (p:=⟨w.heap.size,0,none⟩) V).trans k1;cases d with
   | false =>
    obtain rfl:o=true:=by cases o with | true=>rfl | false=>simp at bt
    clear bt qr;go_wp2;go_ret;exact⟨B,s,m,D,rfl,HM.out,HK.out,Q.out.trans (HB.out.mono Q.out.size)⟩
   | true =>
    obtain⟨PV,sm⟩:∃ PV,PV=Value.slice (some ⟨B,s,none⟩) m D:=⟨_,rfl⟩
    have zO:=ae sm;have HP1:=ae bt;have HP2:=ae qr;clear bt qr sm;go_wp2;clear k2;go_loopw [5,7,8] (fun v ag i w2=>∃ (k:Nat) (d:Bool) (B s G D:Nat),k<=n/\i=.int .i64 k/\ag=.bool d/\v=.slice (some ⟨B,s,none⟩) G D/\Hid (G=(gR f t n o k).length)/\G<=D/\Hid (RowStr w2 B s G (nmF (gR f t n o k)))/\Hid (RowB w2 g n (inD f t n o k))/\Hid (d=true->o=false/\G≠0)/\Hid (Below u.heap.size u w2)) (fun _ _ i _=>n - (intOf i).toNat);case atStart=>exact⟨0,false,B,s,m,D,by omega,rfl,rfl,rfl,HM.out,zI,HK.out,zK.out,(fun h=>by cases h),HB.out⟩
    case round =>
     obtain⟨k,d,b2,ex,m2,c2,hk,rfl,rfl,rfl,zD,ld,ur,la,P,fd⟩:=hrel;have k2:=(fd.out.cell (p:=⟨w.heap.size,0,none⟩) V).trans k1;by_cases q:k<n
     ·go_wp2
      clear k2;go_loopw [5,7,9] (fun v ag i w3=>∃ (j:Nat) (d:Bool) (B s G D:Nat),j<=(f k).linksN/\i=.int .i64 j/\ag=.bool d/\v=.slice (some ⟨B,s,none⟩) G D/\Hid (G=(dV f t n o k j).length)/\G<=D/\Hid (RowStr w3 B s G (nmF (dV f t n o k j)))/\Hid (RowB w3 g n (inJ f t n o k j))/\Hid (d=true->o=false/\G≠0)/\Hid (Below u.heap.size u w3)) (fun _ _ i _=>(f k).linksN - (intOf i).toNat);case atStart=>exact⟨0,d,b2,ex,m2,c2,by omega,rfl,rfl,rfl,by show m2=_;rw[<-nK];exact zD.out,ld,by show RowStr _ _ _ _ _;rw[<-nK];exact ur.out,la.out.congr fun x _=>vV x,P.out,fd.out⟩
      case round =>
       obtain⟨j,d,b3,A,Y,c3,hj,rfl,rfl,rfl,J,S,mv,E,R,L⟩:=hrel;have k3:=(L.out.cell (p:=⟨w.heap.size,0,none⟩) V).trans k1;have DB:=ae (Q.out.trans (L.out.mono Q.out.size));obtain⟨p0,p1,p2,p3,⟨a0,cap0,p4,q4⟩,⟨a1,cap1,p5,q5⟩⟩:=(HR.out.below DB.out ly).2 k q;clear q4 p4 p1 p2 p3;have hlk:=zJ.out k q;by_cases M:j<(f k).linksN
       ·obtain⟨b4,off4,rfl,zE⟩:=q5.resolve_left (by omega)
        obtain⟨r0,r1,r2,r3⟩:=zE.2 j M;obtain⟨l,hl⟩:∃ l,(f k).links j=l:=⟨_,rfl⟩
        rw[hl] at r0 r1 r2 r3;obtain⟨nm,ask,hs,at_⟩:=l;dsimp only at r0 r1 r2 r3;have HL:=ae hl;clear zE hl;have gl:=E.out.lt;have th:(Y:Int)<=1048576:=by
         have h1:=J.out;have h2:(dV f t n o k j).length<=n+1:=by
          unfold dV;have:=kY f t n;have:=kY f t k;split
          ·omega
          ·split
           ·have:=fK (aQ f t k) (f k).name.toList
            omega
           ·omega
         omega
        have D4:=ae ((q9 wr).alloc ly (.cells #[.string nm,.bool ask,.bool hs,.int .i64 at_] 73));have C4:=ae (L.out.alloc L.out.size (.cells #[.string nm,.bool ask,.bool hs,.int .i64 at_] 73));have R4:=ae (E.out.below D4.out ly);have S4:=ae (mv.out.below D4.out ly);have ck:=R4.out.cell q;rw[vX] at ck;cases hc:cV f t n o k j with
        | true =>rw[hc] at ck;have U:=ae (rM hc);have I:=ae (lp (f:=f) (t:=t) (n:=n) (ph:=o) (k:=k) (j:=j) (by rw[(rM hc).1,hc]));clear hc;go_wp2;exact⟨⟨j+1,d,b3,A,Y,c3,by omega,by go_num,rfl,rfl,by rw[U.out.2];exact J.out,S,by rw[U.out.2];exact S4.out,R4.out.congr fun x _=>I.out x,R.out,C4.out⟩,by simp[intOf];omega⟩
        | false =>
         rw[hc] at ck;have zk:=R4.out.frozen k;have N5:=ae ((Below.refl _ (wr.setCell ⟨g,k,none⟩ (.bool true))).alloc ly (.cells #[.string nm,.bool ask,.bool hs,.int .i64 at_] 73));have R5:=ae ((E.out.set k true).below N5.out ly);have S5:=ae ((mv.out.bools E.out ⟨g,k,none⟩ rfl (.bool true)).below N5.out ly);have zL:u.heap.size<=g:=Nat.le_of_eq HG.out.symm;have C:=ae ((L.out.setCell (p:=⟨g,k,none⟩) zL (.bool true)).alloc (by have:=L.out.size;simpa using this) (.cells #[.string nm,.bool ask,.bool hs,.int .i64 at_] 73));clear N5;cases he:(nm.toList == t.toList) with
         | true =>
          have y:ee (bo f t n) t ((f k).links j)=true:=by rw[HL.out];simp only[ee,he,Bool.true_or]
          have O:=ae (lT q M (N.out k q) hc y);have I:=ae (rN (f:=f) (t:=t) (n:=n) (ph:=o) (k:=k) (j:=j) (lT q M (N.out k q) hc y).2.1);have q0:=(C.out.cell (p:=⟨w.heap.size,0,none⟩) V).trans k1;have q1:=((Q.out.trans (C.out.mono Q.out.size)).cell (p:=⟨b,off+k*6,none⟩) HR.out.1).trans (HR.out.2 k q).1;clear hc y;go_wp2_with fail;generalize (wr.setCell ⟨g,k,none⟩ (.bool true)).alloc (.cells #[.string nm,.bool ask,.bool hs,.int .i64 at_] 73)=W5 at R5 S5 C q0 q1 ⊢;refine(fV b3 A Y c3 (dV f t n o k j) (f k).name _ J.out th (by omega) S5.out).mono ?_;rintro e w6 ⟨b6,Z,m6,c6,rfl,K,zH,H,z⟩;rw[O.out.2.2.1,<-O.out.2.2.2] at K H;have M6:=ae K;have S6:=ae H;have C6:=ae (C.out.trans (z.mono C.out.size));have R6:=ae (R5.out.below z ly);clear K H z q0 q1;go_wp2;exact⟨⟨j+1,true,b6,Z,m6,c6,by omega,by go_num,rfl,rfl,M6.out,by omega,S6.out,R6.out.congr fun x _=>I.out x,fun _=>⟨O.out.1,by have h1:=M6.out;rw[O.out.2.2.2] at h1;have h2:=rL (aQ f t k) (f k).name.toList;omega⟩,C6.out⟩,by simp[intOf];omega⟩
         | false =>
          cases ask with
          | false =>
           have y:ee (bo f t n) t ((f k).links j)=false:=by rw[HL.out];simp only[ee,he,Bool.false_and,Bool.or_false]
           clear R5 S5 C;have U:=ae (oG hc y);have I:=ae (lp (f:=f) (t:=t) (n:=n) (ph:=o) (k:=k) (j:=j) (by rw[(oG hc y).1,hc]));clear hc y;go_wp2;exact⟨⟨j+1,d,b3,A,Y,c3,by omega,by go_num,rfl,rfl,by rw[U.out.2];exact J.out,S,by rw[U.out.2];exact S4.out,R4.out.congr fun x _=>I.out x,R.out,C4.out⟩,by simp[intOf];omega⟩
          | true =>
           obtain⟨X,n8,-⟩:=HA.out k q j M (by rw[HL.out]);rw[HL.out] at X n8;dsimp only at X n8;obtain⟨p,rfl⟩:=Int.eq_ofNat_of_zero_le X;have zG:p<k:=by omega
           have hpn:(p:Int)<n:=by omega
           have cp:=R4.out.cell (show p<n by omega);rw[yK zG] at cp;cases hd:bo f t n p with
           | true =>
            have y:ee (bo f t n) t ((f k).links j)=true:=by rw[HL.out];simp only[ee,he,Int.toNat_natCast,hd,Bool.and_true,Bool.or_true]
            rw[hd] at cp;have O:=ae (lT q M (N.out k q) hc y);have I:=ae (rN (f:=f) (t:=t) (n:=n) (ph:=o) (k:=k) (j:=j) (lT q M (N.out k q) hc y).2.1);have q0:=(C.out.cell (p:=⟨w.heap.size,0,none⟩) V).trans k1;have q1:=((Q.out.trans (C.out.mono Q.out.size)).cell (p:=⟨b,off+k*6,none⟩) HR.out.1).trans (HR.out.2 k q).1;clear hc y;go_wp2_with fail;generalize (wr.setCell ⟨g,k,none⟩ (.bool true)).alloc (.cells #[.string nm,.bool true,.bool hs,.int .i64 (p:Int)] 73)=W5 at R5 S5 C q0 q1 ⊢;refine(fV b3 A Y c3 (dV f t n o k j) (f k).name _ J.out th (by omega) S5.out).mono ?_;rintro e w6 ⟨b6,Z,m6,c6,rfl,K,zH,H,z⟩;rw[O.out.2.2.1,<-O.out.2.2.2] at K H;have M6:=ae K;have S6:=ae H;have C6:=ae (C.out.trans (z.mono C.out.size));have R6:=ae (R5.out.below z ly);clear K H z q0 q1;go_wp2;exact⟨⟨j+1,true,b6,Z,m6,c6,by omega,by go_num,rfl,rfl,M6.out,by omega,S6.out,R6.out.congr fun x _=>I.out x,fun _=>⟨O.out.1,by have h1:=M6.out;rw[O.out.2.2.2] at h1;have h2:=rL (aQ f t k) (f k).name.toList;omega⟩,C6.out⟩,by simp[intOf];omega⟩
           | false =>
            have y:ee (bo f t n) t ((f k).links j)=false:=by rw[HL.out];simp only[ee,he,Int.toNat_natCast,hd,Bool.and_false,Bool.or_false]
            rw[hd] at cp;clear R5 S5 C;have U:=ae (oG hc y);have I:=ae (lp (f:=f) (t:=t) (n:=n) (ph:=o) (k:=k) (j:=j) (by rw[(oG hc y).1,hc]));clear hc y;go_wp2;exact⟨⟨j+1,d,b3,A,Y,c3,by omega,by go_num,rfl,rfl,by rw[U.out.2];exact J.out,S,by rw[U.out.2];exact S4.out,R4.out.congr fun x _=>I.out x,R.out,C4.out⟩,by simp[intOf];omega⟩
       ·obtain rfl:j=(f k).linksN:=by omega
        have I:=ae (xQ (f:=f) (t:=t) (n:=n) (ph:=o) q (N.out k q));have HJ:=ae (vW (f:=f) (t:=t) (n:=n) (ph:=o) q (N.out k q));go_wp2;exact⟨⟨k+1,d,b3,A,Y,c3,by omega,by go_num,rfl,rfl,by rw[<-HJ.out];exact J.out,S,by rw[<-HJ.out];exact mv.out,E.out.congr fun x _=>I.out x,R.out,L.out⟩,by simp[intOf];omega⟩
     ·obtain rfl:k=n:=by omega
      go_wp2;refine⟨⟨true,d,b2,ex,m2,c2,rfl,rfl,?_,ld,?_,?_,(fun h=>by cases h),fun _ h=>(P.out h).2,fd.out⟩,?_⟩
      ·have:=zD.out
       cases o<;>exact this
      ·have:=ur.out
       cases o<;>exact this
      ·exact la.out.congr fun x hx=>by simp[inD,hx]
      ·have:=zO.out
       exact vY rfl rfl fun h=>⟨by have h1:=(P.out h).1;subst h1;have:=HM.out;simpa[gR,aQ] using this,(P.out h).2⟩
theorem oB (a:Option Addr)(n cap:Nat)(f:Nat->ar)(w:World)(hn:(n:Int)<=1048576)(hv:SlDeed w a n f)(C:∀ i,i<n->cK (f i))(N:∀ i,i<n->dD (f i)):Calls Tryz.prog 38 #[.agg #[.slice a n cap]] w fun e w'=>∃ b off m c:Nat,e=.returned (.slice (some ⟨b,off,none⟩) m c)/\m=(gP f n).length/\RowStr w' b off m (nmF (gP f n))/\Below w.heap.size w w':=by
 have S:=ae hv;have s:=ae C;have HZ:=ae N;clear hv C N;have B:=ae (((q9 w).alloc ly (.cells #[.slice a n cap] 59)).alloc (by simp) (.cells #[] 9));have U:((w.alloc (.cells #[.slice a n cap] 59)).alloc (.cells #[] 9)).cell? ⟨w.heap.size,0,none⟩=some (.slice a n cap):=by simp
 have G:=ae (show RowStr ((w.alloc (.cells #[.slice a n cap] 59)).alloc (.cells #[] 9)) (w.heap.size+1) 0 0 (nmF []) from⟨by simp,fun i hi=>absurd hi (Nat.not_lt_zero _)⟩);obtain⟨T,Y⟩:∃ T,T=gP f n:=⟨_,rfl⟩
 rw[<-Y];have H:=ae (show T=if bK f n=true then aV f n else [] from Y);clear Y;go_enter Tryz.func38,Tryz.ntmps38;go_wp2_with fail;generalize (w.alloc (.cells #[.slice a n cap] 59)).alloc (.cells #[] 9)=W at B U G ⊢;have hz:w.heap.size<W.heap.size:=by have:=G.out.1;omega
 refine(lm a n cap f _ hn (S.out.below B.out ly) s.out HZ.out).mono ?_;rintro e R ⟨rfl,d⟩;have q:=ae (B.out.trans (d.mono B.out.size));have E1:=ae (G.out.below d ly);have k1:=(d.cell (p:=⟨w.heap.size,0,none⟩) hz).trans U;have O:w.heap.size<R.heap.size:=lj hz d.size;clear d B G U hz;have V:=ae (fun h:bK f n=true=>(⟨dT h,eX h⟩:(1<=n/\n<=400/\aG (aZ f) n=-1)/\∀ p,p<n->(f p).linksN<=200));generalize bK f n=r at H V ⊢;cases r with
 | false =>obtain rfl:T=[]:=H.out;go_wp2;go_ret;exact⟨w.heap.size+1,0,0,0,rfl,rfl,E1.out,q.out⟩
 | true =>
  obtain rfl:T=aV f n:=H.out;obtain⟨⟨hn1,hn4,-⟩,hl⟩:=V.out rfl;have Q:=ae hl;clear hl;clear H V s;obtain⟨b,off,rfl,A⟩:=S.out.resolve_left (by omega);have HR:=ae A;clear S A;go_wp2;go_loopw [3,4] (fun v i wr=>∃ (k x l m z:Nat),k<=n/\i=.int .i64 k/\v=.slice (some ⟨x,l,none⟩) m z/\Hid (m=(aV f k).length)/\m<=z/\Hid (RowStr wr x l m (nmF (aV f k)))/\Hid (Below R.heap.size R wr)) (fun _ i _=>n - (intOf i).toNat);case atStart=>exact⟨0,w.heap.size+1,0,0,0,by omega,rfl,rfl,rfl,by omega,E1.out,Below.refl _ _⟩
  case round =>
   obtain⟨k,x,l,m,z,hk,rfl,rfl,s,hmc,HK,u⟩:=hrel;have k2:=(u.out.cell (p:=⟨w.heap.size,0,none⟩) O).trans k1;by_cases J:k<n
   ·have hm0:m<=k*201:=by have h1:=s.out;have h2:=nF (f:=f) (k:=k) (fun p hp=>Q.out p (by omega));omega
    have hm:(m:Int)<=1048576:=by omega
    have hlk:=Q.out k J;have HS:=ae (show aV f (k+1)=fA (bH (aV f k) (f k).name.toList) (f k).links (f k).linksN from rfl);obtain⟨p0,p1,p2,p3,⟨a0,cap0,p4,q4⟩,⟨a1,cap1,p5,q5⟩⟩:=(HR.out.below (q.out.trans (u.out.mono q.out.size)) ly).2 k J;clear q4 p4 p1 p2 p3;have Q5:=ae q5;clear q5;have bt:=(HR.out.below (q.out.trans (u.out.mono q.out.size)) ly).1;have P5:=ae p5;clear p5;go_wp2_with (go_at_call 113;refine(fV x l m z (aV f k) (f k).name _ s.out hm (by omega) HK.out).mono ?_;rintro e w2 ⟨b2,X,m2,c2,rfl,E,fd,I,d⟩;have Z:=ae E;have R2:=ae I;have D2:=ae d;have B2:=ae (u.out.trans (d.mono u.out.size));clear E I d);have E:m2<=k*201+1:=by have h1:=s.out;have h2:=Z.out;have h3:=fK (aV f k) (f k).name.toList;omega
    have c2k:=fd;go_loopw [3,5] (fun v i w3=>∃ (j D g o c3:Nat),j<=(f k).linksN/\i=.int .i64 j/\v=.slice (some ⟨D,g,none⟩) o c3/\Hid (o=(fA (bH (aV f k) (f k).name.toList) (f k).links j).length)/\o<=c3/\Hid (RowStr w3 D g o (nmF (fA (bH (aV f k) (f k).name.toList) (f k).links j)))/\Hid (Below w2.heap.size w2 w3)) (fun _ i _=>(f k).linksN - (intOf i).toNat);case atStart=>exact⟨0,b2,X,m2,c2,by omega,rfl,rfl,Z.out,by omega,R2.out,Below.refl _ _⟩
    case round =>
     obtain⟨j,D,g,o,c3,hj,rfl,rfl,y,hmc3,P,t⟩:=hrel;have D3:=ae (D2.out.trans (t.out.mono D2.out.size));have B3:=ae (B2.out.trans (t.out.mono B2.out.size));have k3:=(B3.out.cell (p:=⟨w.heap.size,0,none⟩) O).trans k1;have p6:=(D3.out.cell (p:=⟨b,off+k*6+5,none⟩) bt).trans P5.out;have Q6:=ae (Q5.out.below D3.out ly);have ex:(o:Int)<=1048576:=by have h1:=y.out;have h2:=oX (bH (aV f k) (f k).name.toList) (f k).links j;have h3:=Z.out;omega
     by_cases la:j<(f k).linksN
     ·obtain⟨b4,off4,rfl,M⟩:=Q6.out.resolve_left (by omega)
      obtain⟨r0,r1,r2,r3⟩:=M.2 j la;clear r1 r2 r3 M;go_wp2_with (go_at_call 113;refine(fV D g o c3 _ ((f k).links j).name _ y.out ex (by omega) P.out).mono ?_;rintro e w4 ⟨b5,aq,m5,c5,rfl,L,hc5,K,d⟩;have H5:=ae L;have R5:=ae K;have B5:=ae (t.out.trans (d.mono t.out.size));clear L K d);exact⟨⟨j+1,b5,aq,m5,c5,by omega,by go_num,rfl,H5.out,by omega,R5.out,B5.out⟩,by simp[intOf];omega⟩
     ·obtain rfl:j=(f k).linksN:=by omega
      go_wp2;exact⟨⟨k+1,D,g,o,c3,by omega,by go_num,rfl,by rw[HS.out];exact y.out,by omega,by rw[HS.out];exact P.out,B3.out⟩,by simp[intOf];omega⟩
   ·obtain rfl:k=n:=by omega
    go_wp2;go_ret;exact⟨x,l,m,z,rfl,s.out,HK.out,q.out.trans (u.out.mono q.out.size)⟩
theorem lV (a:Option Addr)(n cap:Nat)(f:Nat->ar)(w:World)(hn:(n:Int)<=1048576)(O:SlDeed w a n f)(x:∀ i,i<n->cK (f i))(E:∀ i,i<n->dD (f i)):Calls Tryz.prog 39 #[.agg #[.slice a n cap]] w fun e N=>∃ b off m c:Nat,e=.returned (.slice (some ⟨b,off,none⟩) m c)/\m=(gO f n).length/\RowStr N b off m (nmF (gO f n))/\Below w.heap.size w N:=by
 have H:=ae O;have j:=ae x;have HZ:=ae E;clear O x E;have s:=ae (((q9 w).alloc ly (.cells #[.slice a n cap] 59)).alloc (by simp) (.cells #[] 9));have I:((w.alloc (.cells #[.slice a n cap] 59)).alloc (.cells #[] 9)).cell? ⟨w.heap.size,0,none⟩=some (.slice a n cap):=by simp
 have z:=ae (show RowStr ((w.alloc (.cells #[.slice a n cap] 59)).alloc (.cells #[] 9)) (w.heap.size+1) 0 0 (nmF []) from⟨by simp,fun i hi=>absurd hi (Nat.not_lt_zero _)⟩);obtain⟨T,L⟩:∃ T,T=gO f n:=⟨_,rfl⟩
 rw[<-L];have A:=ae (show T=if bK f n=true then cf f n else [] from L);clear L;go_enter Tryz.func39,Tryz.ntmps39;go_wp2_with fail;generalize (w.alloc (.cells #[.slice a n cap] 59)).alloc (.cells #[] 9)=W at s I z ⊢;have hz:w.heap.size<W.heap.size:=by have:=z.out.1;omega
 refine(lm a n cap f _ hn (H.out.below s.out ly) j.out HZ.out).mono ?_;rintro e G ⟨rfl,g⟩;have u:=ae (s.out.trans (g.mono s.out.size));have R:=ae (z.out.below g ly);have k1:=(g.cell (p:=⟨w.heap.size,0,none⟩) hz).trans I;have Q:w.heap.size<G.heap.size:=lj hz g.size;clear g s z I hz;have J:=ae (fun h:bK f n=true=>dT h);generalize bK f n=r at A J ⊢;cases r with
 | false =>obtain rfl:T=[]:=A.out;go_wp2;go_ret;exact⟨w.heap.size+1,0,0,0,rfl,rfl,R.out,u.out⟩
 | true =>
  obtain rfl:T=cf f n:=A.out;obtain⟨hn1,hn4,-⟩:=J.out rfl;clear A J j;obtain⟨b,off,rfl,t⟩:=H.out.resolve_left (by omega);have HR:=ae t;clear H t;go_wp2;go_loopw [3,4] (fun v i wr=>∃ (k l d m q:Nat),k<=n/\i=.int .i64 k/\v=.slice (some ⟨l,d,none⟩) m q/\Hid (m=(cf f k).length)/\m<=q/\Hid (RowStr wr l d m (nmF (cf f k)))/\Hid (Below G.heap.size G wr)) (fun _ i _=>n - (intOf i).toNat);case atStart=>exact⟨0,w.heap.size+1,0,0,0,by omega,rfl,rfl,rfl,by omega,R.out,Below.refl _ _⟩
  case round =>
   obtain⟨k,l,d,m,q,hk,rfl,rfl,j,hmc,M,o⟩:=hrel;have k2:=(o.out.cell (p:=⟨w.heap.size,0,none⟩) Q).trans k1;have S:(m:Int)<=1048576:=by have y:=j.out;have h2:=oW f k;omega
   by_cases P:k<n
   ·obtain⟨p0,p1,p2,p3,⟨a0,cap0,p4,V⟩,⟨a1,cap1,p5,X⟩⟩:=(HR.out.below (u.out.trans (o.out.mono u.out.size)) ly).2 k P
    clear V X;have B:=ae (show cf f (k+1)=if (f k).kind=1 then bH (cf f k) (f k).name.toList else cf f k from rfl);by_cases y:(f k).kind=1
    ·go_wp2_with (go_at_call 113;refine(fV l d m q (cf f k) (f k).name _ j.out S (by omega) M.out).mono ?_;rintro e w2 ⟨b2,K,m2,c2,rfl,C,hc2,D,g⟩;have Z:=ae C;have U:=ae D;have Y:=ae (o.out.trans (g.mono o.out.size));clear C D g)
     exact⟨⟨k+1,b2,K,m2,c2,by omega,by go_num,rfl,by rw[B.out,if_pos y];exact Z.out,by omega,by rw[B.out,if_pos y];exact U.out,Y.out⟩,by simp[intOf];omega⟩
    ·go_wp2
     exact⟨⟨k+1,l,d,m,q,by omega,by go_num,rfl,by rw[B.out,if_neg y];exact j.out,by omega,by rw[B.out,if_neg y];exact M.out,o.out⟩,by simp[intOf];omega⟩
   ·obtain rfl:k=n:=by omega
    go_wp2;go_ret;exact⟨l,d,m,q,rfl,j.out,M.out,u.out.trans (o.out.mono u.out.size)⟩
end Go.Proofs.YtkophfgkcijjkaaGreatDoor.Vp
