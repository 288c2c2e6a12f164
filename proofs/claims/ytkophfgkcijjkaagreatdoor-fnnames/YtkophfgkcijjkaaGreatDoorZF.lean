import Derived.Test.YtkophfgkcijjkaaGreatDoorZE
import Derived.Deep.DeepCutAuto
set_option maxRecDepth 100000
set_option maxHeartbeats 4000000
namespace Go.Proofs.YtkophfgkcijjkaaGreatDoor.Vp
open RowKit
abbrev xy (x:ar)(a0:Option Addr)(c:Nat)(a1:Option Addr)(b:Nat):Value:=.agg #[.string x.name,.int .i64 x.kind,.int .i64 x.code,.string x.text,.slice a0 x.actN c,.slice a1 x.linksN b]
abbrev zi (l:Link):Value:=.agg #[.string l.name,.bool l.ask,.bool l.has,.int .i64 l.at_]
theorem lJ (x:ar)(a0:Option Addr)(b:Nat)(a1:Option Addr)(c:Nat)(w:World):Calls Tryz.prog 200 #[xy x a0 b a1 c] w fun e h=>e=.returned (.bool (aT x))/\Below w.heap.size w h:=by
 have f:=ae ((q9 w).alloc ly (.cells #[.string x.name,.int .i64 x.kind,.int .i64 x.code,.string x.text,.slice a0 x.actN b,.slice a1 x.linksN c] 67));obtain⟨r,g⟩:∃ r,r=aT x:=⟨_,rfl⟩
 rw[<-g];have d:=ae g;clear g;go_enter Tryz.func200,Tryz.ntmps200;cases h1:(x.code == 0) with
 | false =>
  obtain rfl:r=false:=by rw[d.out];simp at h1;simp[aT,h1]
  go_wp2;go_ret;exact⟨rfl,f.out⟩
 | true =>
  cases h2:((x.actN:Int) == 0) with
  | false =>
   obtain rfl:r=false:=by rw[d.out];simp at h2;simp[aT];omega
   go_wp2;go_ret;exact⟨rfl,f.out⟩
  | true =>
   cases h3:((x.linksN:Int) == 0) with
   | false =>
    obtain rfl:r=false:=by rw[d.out];simp at h3;simp[aT];omega
    go_wp2;go_ret;exact⟨rfl,f.out⟩
   | true =>
    obtain rfl:r=true:=by rw[d.out];simp at h1 h2 h3;simp[aT,h1,h2,h3]
    go_wp2;go_ret;exact⟨rfl,f.out⟩
def dh (f:Nat->ar)(p:Nat)(l:Link):Bool:=if l.ask=true then !l.has && decide (0<=l.at_) && decide (l.at_<(p:Int)) && ((f l.at_.toNat).name.toList == l.name.toList) else decide (l.at_=0)
theorem dv (f:Nat->ar)(p:Nat)(l:Link):eC f p l=(aw l.name && dh f p l):=rfl
theorem jD (b off n p cap:Nat)(f:Nat->ar)(l:Link)(w:World)(hp:p<=n)(j:RowDeed w b off n f):Calls Tryz.prog 225 #[.slice (some ⟨b,off,none⟩) p cap,zi l] w fun e s=>e=.returned (.bool (dh f p l))/\Below w.heap.size w s:=by
 have c:=ae ((q9 w).alloc ly (.cells #[.string l.name,.bool l.ask,.bool l.has,.int .i64 l.at_] 73));have o:=ae (j.below c.out ly);have hb:=j.1;clear j;obtain⟨r,g⟩:∃ r,r=dh f p l:=⟨_,rfl⟩
 rw[<-g];have h:=ae g;clear g;obtain⟨nm,ask,has,at_⟩:=l;go_enter Tryz.func225,Tryz.ntmps225;cases ask with
 | false =>
  cases d:(at_ == 0) with
  | true =>
   obtain rfl:r=true:=by rw[h.out];simp at d;simp[dh,d]
   go_wp2;go_ret;exact⟨rfl,c.out⟩
  | false =>
   obtain rfl:r=false:=by rw[h.out];simp at d;simp[dh,d]
   go_wp2;go_ret;exact⟨rfl,c.out⟩
 | true =>
  cases has with
  | true =>
   obtain rfl:r=false:=by rw[h.out];simp[dh]
   go_wp2_with fail;go_quiet (fail);go_wp2;go_ret;exact⟨rfl,below_drewN c.out _⟩
  | false =>
   by_cases d:0<=at_
   ·by_cases i:at_<(p:Int)
    ·obtain⟨q,rfl⟩:∃ q:Nat,at_=(q:Int):=⟨at_.toNat,by omega⟩
     have m:q<n:=by omega
     have d0:=(o.out.2 q m).1;have e:r=((f q).name.toList == nm.toList):=by rw[h.out];simp[dh,i]
     cases g:((f q).name.toList == nm.toList) with
     | true =>rw[g] at e;subst e;go_wp2_with fail;go_quiet (fail);go_wp2;go_ret;exact⟨rfl,below_drewN c.out _⟩
     | false =>rw[g] at e;subst e;go_wp2_with fail;go_quiet (fail);go_wp2;go_ret;exact⟨rfl,below_drewN c.out _⟩
    ·obtain rfl:r=false:=by rw[h.out];simp[dh,i]
     have k:decide (at_<(p:Int))=false:=by simpa using i
     go_wp2_with fail;go_quiet (fail);go_wp2;go_ret;exact⟨rfl,below_drewN c.out _⟩
   ·obtain rfl:r=false:=by rw[h.out];simp[dh,d]
    have k:decide (0<=at_)=false:=by simpa using d
    go_wp2_with fail;go_quiet (fail);go_wp2;go_ret;exact⟨rfl,below_drewN c.out _⟩
theorem iR {f:Nat->ar}{p:Nat}{x:ar}{k m:Nat}(hk:k<m)(h:bQ f p x (k+1)=false):bQ f p x m=false:=by
 induction m with
 | zero=>omega
 | succ j b =>
  by_cases e:k=j
  ·subst e;exact h
  ·rw[bQ,b (by omega)];rfl
theorem mD (b off n cap p:Nat)(f:Nat->ar)(w:World)(hp:p<n)(I:RowDeed w b off n f)(hcap:(p:Int)<=cap):Calls Tryz.prog 201 #[.agg #[.slice (some ⟨b,off,none⟩) n cap],.int .i64 (p:Int)] w fun e O=>e=.returned (.bool (decide ((f p).linksN<=200) && bQ f p (f p) (f p).linksN))/\Below w.heap.size w O:=by
 have h:=ae ((q9 w).alloc ly (.cells #[.slice (some ⟨b,off,none⟩) n cap] 59));have HF:=ae I;obtain⟨_,_,_,_,_,⟨a1,cap1,J,r1⟩⟩:=I.2 p hp;have hb:=I.1;have k0:(w.alloc (.cells #[.slice (some ⟨b,off,none⟩) n cap] 59)).cell? ⟨w.heap.size,0,none⟩=some (.slice (some ⟨b,off,none⟩) n cap):=by simp
 have p5:=(h.out.cell (p:=⟨b,off+p*6+5,none⟩) hb).trans J;have U:=ae r1;have y:w.heap.size<(w.alloc (.cells #[.slice (some ⟨b,off,none⟩) n cap] 59)).heap.size:=by simp
 clear r1 J I;obtain⟨m,N⟩:∃ m,m=(f p).linksN:=⟨_,rfl⟩
 obtain⟨L,hL⟩:∃ L,L=(f p).links:=⟨_,rfl⟩
 rw[<-N] at p5 U ⊢;rw[<-hL] at U;have HM:=ae N;have bt:=ae hL;clear N hL;by_cases hbig:(200:Int)<(m:Int)
 ·obtain⟨r,P⟩:∃ r,r=(decide (m<=200) && bQ f p (f p) m):=⟨_,rfl⟩
  rw[<-P];obtain rfl:r=false:=by rw[P];simp;omega
  clear P;go_enter Tryz.func201,Tryz.ntmps201;go_wp2;go_ret;exact⟨rfl,h.out⟩
 have hd:decide (m<=200)=true:=by simp;omega
 rw[hd,Bool.true_and];clear hd;go_enter Tryz.func201,Tryz.ntmps201;go_wp2;generalize w.alloc (.cells #[.slice (some ⟨b,off,none⟩) n cap] 59)=W at h k0 y ⊢;clear p5;go_loopw [19] (fun i wr=>∃ k:Nat,k<=m/\i=.int .i64 k/\Hid (bQ f p (f p) k=true)/\Hid (Below W.heap.size W wr)) (fun i _=>m - (intOf i).toNat);case atStart=>exact⟨0,by omega,rfl,rfl,Below.refl _ _⟩
 case round =>
  obtain⟨k,hk,rfl,Z,o⟩:=hrel;by_cases q:k<m
  ·obtain⟨lb,lo,rfl,ex,t⟩:=U.out.resolve_left (by omega)
   have hx:=(t k q).below (h.out.trans (o.out.mono h.out.size)) ex;obtain⟨l,hl⟩:∃ l,l=L k:=⟨_,rfl⟩
   rw[<-hl] at hx;have aq:=ae hl;obtain⟨d0,d1,d2,d3⟩:=hx;clear hl t;have R:Hid (bQ f p (f p) (k+1)=eC f p l):=by show(bQ f p (f p) k && eC f p ((f p).links k))=_;rw[Z.out,Bool.true_and,<-bt.out,<-aq.out]
   have x:=ae ((h.out.trans (o.out.mono h.out.size)).alloc (by have:=h.out.size;have:=o.out.size;omega) (.cells #[.string l.name,.bool l.ask,.bool l.has,.int .i64 l.at_] 73));have A:=ae ((o.out).alloc o.out.size (.cells #[.string l.name,.bool l.ask,.bool l.has,.int .i64 l.at_] 73));have C:(wr.alloc (.cells #[.string l.name,.bool l.ask,.bool l.has,.int .i64 l.at_] 73)).cell? ⟨wr.heap.size,0,none⟩=some (.string l.name):=by simp
   have G:(wr.alloc (.cells #[.string l.name,.bool l.ask,.bool l.has,.int .i64 l.at_] 73)).cell? ⟨wr.heap.size,1,none⟩=some (.bool l.ask):=by simp
   have E:(wr.alloc (.cells #[.string l.name,.bool l.ask,.bool l.has,.int .i64 l.at_] 73)).cell? ⟨wr.heap.size,2,none⟩=some (.bool l.has):=by simp
   have H:(wr.alloc (.cells #[.string l.name,.bool l.ask,.bool l.has,.int .i64 l.at_] 73)).cell? ⟨wr.heap.size,3,none⟩=some (.int .i64 l.at_):=by simp
   have hX:wr.heap.size<(wr.alloc (.cells #[.string l.name,.bool l.ask,.bool l.has,.int .i64 l.at_] 73)).heap.size:=by simp
   have V:=(A.out.cell (p:=⟨w.heap.size,0,none⟩) y).trans k0;have u:w.heap.size<(wr.alloc (.cells #[.string l.name,.bool l.ask,.bool l.has,.int .i64 l.at_] 73)).heap.size:=lj y A.out.size;have T:=ae (HF.out.below x.out ly);go_upto_region 7 with fail;clear d0 d1 d2 d3;generalize wr.alloc (.cells #[.string l.name,.bool l.ask,.bool l.has,.int .i64 l.at_] 73)=D at x A C G E H hX V u T ⊢;generalize wr.heap.size=X at C G E H hX ⊢;have hp0:0<=(p:Int):=by omega
   have hpn:(p:Int)<=n:=by omega
   have K:p<=n:=by omega
   have hcap':p<=cap:=by omega
   cases hnm:aw l.name with
   | false =>
    have hq:∀ w,Calls Tryz.prog 81 #[.string l.name] w fun e O=>e=.returned (.bool false)/\O=w:=fun w=>by rw[<-hnm];exact qE l.name w
    go_quiet ((go_at_call 81;exact Calls.quiet_of_same (hq _)));have hN:eC f p l=false:=by rw[dv,hnm];rfl
    have s:=ae (R.out.trans hN);have B:=ae q;have G1:=ae (below_drewN x.out nq);clear hN;go_wp2;go_ret;exact⟨congrArg (fun z=>Ending.returned (.bool z)) (iR B.out s.out).symm,G1.out⟩
   | true =>
    cases hla:dh f p l with
    | true =>
     go_region_with (first
      | (go_at_call 81;refine(gA _ _).mono ?_;rintro e M ⟨g,c⟩;rw[hnm] at g;subst g;have d:Hid (Below D.heap.size D M):=⟨c.os,c.tape,c.output,c.size,c.block⟩;have f0:=(d.out.cell (p:=⟨X,0,none⟩) hX).trans C;have f1:=(d.out.cell (p:=⟨X,1,none⟩) hX).trans G;have f2:=(d.out.cell (p:=⟨X,2,none⟩) hX).trans E;have f3:=(d.out.cell (p:=⟨X,3,none⟩) hX).trans H;have k2:=(d.out.cell (p:=⟨w.heap.size,0,none⟩) u).trans V;have Y:=ae (T.out.below d.out ly);clear c)
      | (go_at_call 225;refine(jD b off n p cap f l _ K Y.out).mono ?_;rintro e w2 ⟨g,j⟩;rw[hla] at g;subst g;have Q:=ae (d.out.trans (j.mono d.out.size));clear j))
     all_goals
      have s:Hid (bQ f p (f p) (k+1)=true):=R.out.trans (by rw[dv,hnm,hla];rfl);have S:=ae (A.out.trans (Q.out.mono A.out.size));go_wp2;exact⟨⟨k+1,by omega,by go_num,s.out,S.out⟩,by simp[intOf];omega⟩
    | false =>
     go_region_with (first
      | (go_at_call 81;refine(gA _ _).mono ?_;rintro e M ⟨g,c⟩;rw[hnm] at g;subst g;have d:Hid (Below D.heap.size D M):=⟨c.os,c.tape,c.output,c.size,c.block⟩;have f0:=(d.out.cell (p:=⟨X,0,none⟩) hX).trans C;have f1:=(d.out.cell (p:=⟨X,1,none⟩) hX).trans G;have f2:=(d.out.cell (p:=⟨X,2,none⟩) hX).trans E;have f3:=(d.out.cell (p:=⟨X,3,none⟩) hX).trans H;have k2:=(d.out.cell (p:=⟨w.heap.size,0,none⟩) u).trans V;have Y:=ae (T.out.below d.out ly);clear c)
      | (go_at_call 225;refine(jD b off n p cap f l _ K Y.out).mono ?_;rintro e w2 ⟨g,j⟩;rw[hla] at g;subst g;have Q:=ae (d.out.trans (j.mono d.out.size));clear j))
     all_goals
      have s:Hid (bQ f p (f p) (k+1)=false):=R.out.trans (by rw[dv,hnm,hla];rfl);have B:=ae q;have S:=ae (x.out.trans (Q.out.mono (by have:=x.out.size;omega)));go_wp2;go_ret;exact⟨congrArg (fun z=>Ending.returned (.bool z)) (iR B.out s.out).symm,S.out⟩
  ·have e:m=k:=by omega
   subst e;go_wp2;go_ret;exact⟨by rw[HM.out] at Z;rw[HM.out];exact congrArg (fun z=>Ending.returned (.bool z)) Z.out.symm,h.out.trans (o.out.mono h.out.size)⟩
structure SixB (w:World)(b:Nat)(v0 v1 v2 v3 v4 v5:Value):Prop where
 lt:b<w.heap.size
 c0:w.cell? ⟨b,0,none⟩=some v0
 c1:w.cell? ⟨b,1,none⟩=some v1
 c2:w.cell? ⟨b,2,none⟩=some v2
 c3:w.cell? ⟨b,3,none⟩=some v3
 c4:w.cell? ⟨b,4,none⟩=some v4
 c5:w.cell? ⟨b,5,none⟩=some v5
theorem SixB.below {w g:World}{b:Nat}{c i j k f d:Value}(h:SixB w b c i j k f d)(hb:Below w.heap.size w g):SixB g b c i j k f d :=
 ⟨lj h.lt hb.size,(hb.cell (p:=⟨b,0,none⟩) h.lt).trans h.c0,(hb.cell (p:=⟨b,1,none⟩) h.lt).trans h.c1,(hb.cell (p:=⟨b,2,none⟩) h.lt).trans h.c2,(hb.cell (p:=⟨b,3,none⟩) h.lt).trans h.c3,(hb.cell (p:=⟨b,4,none⟩) h.lt).trans h.c4,(hb.cell (p:=⟨b,5,none⟩) h.lt).trans h.c5⟩
theorem iS (w:World)(b f h g d c:Value)(t:TypeId):SixB (w.alloc (.cells #[b,f,h,g,d,c] t)) w.heap.size b f h g d c:=⟨by simp,by simp,by simp,by simp,by simp,by simp,by simp⟩
theorem iT (t:ByteArray):t.toList.isEmpty=decide (t.size=0):=by rw[ByteArray.toList_eq];obtain⟨⟨l⟩⟩:=t;cases l<;>simp[ByteArray.size]
theorem tW {a b:Bool}(h:a=b):Ending.returned (.bool a)=Ending.returned (.bool b):=by rw[h]
theorem oq (b off n cap p:Nat)(f:Nat->ar)(w:World)(J:p<n)(B:RowDeed w b off n f)(I:(p:Int)<=cap)(t:(f p).actN<=1048576)(N:Tab w):Calls Tryz.prog 162 #[.agg #[.slice (some ⟨b,off,none⟩) n cap],.int .i64 (p:Int)] w fun e X=>e=.returned (.bool (aZ f p))/\Below w.heap.size w X:=by
 have HF:=ae B;have M:=ae N;have hb:=B.1;obtain⟨L,R,O,P,⟨a0,d,Q,G⟩,⟨a1,j,T,Z⟩⟩:=B.2 p J;obtain⟨r,E⟩:∃ r,r=aZ f p:=⟨_,rfl⟩
 rw[<-E];have z:=ae E;obtain⟨x,C⟩:∃ x,x=f p:=⟨_,rfl⟩
 rw[<-C] at L R O P Q T G t;have y:=ae C;have Q4:=ae G;clear E C G Z B N;have m:=ae (((q9 w).alloc ly (.cells #[.slice (some ⟨b,off,none⟩) n cap] 59)).alloc (by simp) (.cells #[.string x.name,.int .i64 x.kind,.int .i64 x.code,.string x.text,.slice a0 x.actN d,.slice a1 x.linksN j] 67));have o:=ae (iS (w.alloc (.cells #[.slice (some ⟨b,off,none⟩) n cap] 59)) (.string x.name) (.int .i64 x.kind) (.int .i64 x.code) (.string x.text) (.slice a0 x.actN d) (.slice a1 x.linksN j) 67);have hz:(w.alloc (.cells #[.slice (some ⟨b,off,none⟩) n cap] 59)).heap.size=w.heap.size+1:=by simp
 rw[hz] at o;have H:Hid (((w.alloc (.cells #[.slice (some ⟨b,off,none⟩) n cap] 59)).alloc (.cells #[.string x.name,.int .i64 x.kind,.int .i64 x.code,.string x.text,.slice a0 x.actN d,.slice a1 x.linksN j] 67)).cell? ⟨w.heap.size,0,none⟩=some (.slice (some ⟨b,off,none⟩) n cap)):=by show World.cell? _ _=_;simp
 clear hz;go_enter Tryz.func162,Tryz.ntmps162;go_wp2_with fail;generalize (w.alloc (.cells #[.slice (some ⟨b,off,none⟩) n cap] 59)).alloc (.cells #[.string x.name,.int .i64 x.kind,.int .i64 x.code,.string x.text,.slice a0 x.actN d,.slice a1 x.linksN j] 67)=W at m o H ⊢;clear L R O P Q T;cases hnm:aw x.name with
 | false =>
  refine(gA x.name _).mono ?_;rintro e U ⟨g,c⟩;rw[hnm] at g;subst g;have h:=ae (m.out.trans (c.mono m.out.size));obtain rfl:r=false:=by rw[z.out];unfold aZ;rw[<-y.out,hnm];rfl
  clear c;go_wp2;go_ret;exact⟨rfl,h.out⟩
 | true =>
 refine(gA x.name _).mono ?_;rintro e U ⟨g,c⟩;rw[hnm] at g;subst g;have h:=ae (m.out.trans (c.mono m.out.size));have k:=ae (o.out.below c);have V:=ae ((c.cell (p:=⟨w.heap.size,0,none⟩) (Nat.lt_of_succ_lt o.out.lt)).trans H.out);have c1:=k.out.c1;have c2:=k.out.c2;have c3:=k.out.c3;clear c m o H;by_cases hbig:(2000:Int)<(x.text.size:Int)
 ·obtain rfl:r=false:=by rw[z.out];unfold aZ;rw[<-y.out,hnm];simp;omega
  go_wp2;go_ret;exact⟨rfl,h.out⟩
 have A:Hid (r=kindOk f p x):=by show r=_;rw[z.out];unfold aZ;rw[<-y.out,hnm,show decide (x.text.size<=2000)=true by simp;omega];rfl
 clear z;cases h1:(x.kind == 1) with
 | true =>
  have u:x.kind=1:=by simpa using h1
  have i:Hid (aT x=r):=(A.out.trans (by unfold kindOk;rw[if_pos u])).symm;clear u;have c0:=k.out.c0;have c4:=k.out.c4;have c5:=k.out.c5;go_wp2_with fail;refine(lJ x a0 d a1 j _).mono ?_;rintro e D ⟨rfl,c⟩;have l:=ae (h.out.trans (c.mono h.out.size));clear c;go_wp2;go_ret;exact⟨tW i.out,l.out⟩
 | false =>
 cases h2:(x.kind == 2) with
 | true =>
  have u:x.kind=2:=by simpa using h2
  have i:Hid (r=(aT x && decide (x.text.size=0))):=A.out.trans (by unfold kindOk;rw[if_neg (by omega),if_pos u]);clear u;have c0:=k.out.c0;have c4:=k.out.c4;have c5:=k.out.c5;go_wp2_with fail;refine(lJ x a0 d a1 j _).mono ?_;rintro e D ⟨g,c⟩;have l:=ae (h.out.trans (c.mono h.out.size));have d3:=(k.out.below c).c3;clear c;cases hu:aT x with
  | false =>
   rw[hu] at g;subst g;obtain rfl:r=false:=by rw[i.out,hu];rfl
   go_wp2;go_ret;exact⟨rfl,l.out⟩
  | true =>
   rw[hu] at g;subst g;have s:Hid (decide (x.text.size=0)=r):=by show _=r;rw[i.out,hu];rfl
   go_wp2;go_ret;exact⟨bW (by rw[iT];exact s.out),l.out⟩
 | false =>
 cases h3:(x.kind == 3) with
 | false =>
  obtain rfl:r=false:=by rw[A.out];unfold kindOk;simp at h1 h2 h3;rw[if_neg h1,if_neg h2,if_neg h3]
  go_wp2;go_ret;exact⟨rfl,h.out⟩
 | true =>
 have i:Hid (r=cj f p x):=A.out.trans (by unfold kindOk;simp at h1 h2 h3;rw[if_neg h1,if_neg h2,if_pos h3]);by_cases S:0<=x.code
 ·by_cases K:x.code<=5
  ·have c4:=k.out.c4
   go_wp2_with fail;refine(oM a0 x.actN d x.act _ t (Q4.out.below h.out ly) (M.out.below h.out M.out.1)).mono ?_;rintro e D ⟨g,c⟩;have l:=ae (h.out.trans (c.mono h.out.size));have K2:=(c.cell (p:=⟨w.heap.size,0,none⟩) (Nat.lt_of_succ_lt k.out.lt)).trans V.out;clear c;cases hv:valid x.act x.actN with
   | false =>
    rw[hv] at g;subst g;obtain rfl:r=false:=by rw[i.out];simp[cj,hv]
    go_wp2;go_ret;exact⟨rfl,l.out⟩
   | true =>
    rw[hv] at g;subst g;have s:Hid ((decide (x.linksN<=200) && bQ f p x x.linksN)=r):=by show _=r;rw[i.out];simp[cj,hv,S,K]
    have q:=ae (mD b off n cap p f D J (HF.out.below l.out ly) I);rw[<-y.out] at q;rw[s.out] at q;go_wp2_with fail;refine q.out.mono ?_;rintro e w3 ⟨rfl,c⟩;have Y:=ae (l.out.trans (c.mono l.out.size));clear c;go_wp2;go_ret;exact⟨rfl,Y.out⟩
  ·obtain rfl:r=false:=by rw[i.out];simp[cj,K]
   go_wp2;go_ret;exact⟨rfl,h.out⟩
 ·obtain rfl:r=false:=by rw[i.out];simp[cj,S]
  go_wp2;go_ret;exact⟨rfl,h.out⟩
theorem ot (b off n cap:Nat)(f:Nat->ar)(w:World)(hn:(n:Int)<=400)(B:RowDeed w b off n f)(hcap:(n:Int)<=cap)(g:∀ i,i<n->cK (f i))(y:Tab w):Calls Tryz.prog 101 #[.agg #[.slice (some ⟨b,off,none⟩) n cap]] w fun e C=>e=.returned (.int .i64 (aG (aZ f) n))/\Below w.heap.size w C:=by
 have I:=ae B;have x:=ae y;have H:=ae g;clear B y g;have o:=ae ((q9 w).alloc ly (.cells #[.slice (some ⟨b,off,none⟩) n cap] 59));have u:(w.alloc (.cells #[.slice (some ⟨b,off,none⟩) n cap] 59)).cell? ⟨w.heap.size,0,none⟩=some (.slice (some ⟨b,off,none⟩) n cap):=by simp
 have m:w.heap.size<(w.alloc (.cells #[.slice (some ⟨b,off,none⟩) n cap] 59)).heap.size:=by simp
 obtain⟨r,q⟩:∃ r,r=aG (aZ f) n:=⟨_,rfl⟩
 rw[<-q];have z:=ae q;clear q;go_enter Tryz.func101,Tryz.ntmps101;go_wp2;generalize w.alloc (.cells #[.slice (some ⟨b,off,none⟩) n cap] 59)=W at o u m ⊢;go_loopw [7] (fun i wr=>∃ k:Nat,k<=n/\i=.int .i64 k/\Hid (∀ j,j<k->aZ f j=true)/\Hid (Below W.heap.size W wr)) (fun i _=>n - (intOf i).toNat);case atStart=>exact⟨0,by omega,rfl,fun j A=>absurd A (Nat.not_lt_zero _),Below.refl _ _⟩
 case round =>
  obtain⟨k,hk,rfl,s,l⟩:=hrel;have k1:=(l.out.cell (p:=⟨w.heap.size,0,none⟩) m).trans u;have d:=ae (o.out.trans (l.out.mono o.out.size));by_cases c:k<n
  ·go_wp2_with fail
   refine(oq b off n cap k f _ c (I.out.below d.out ly) (by omega) (H.out k c).1 (x.out.below d.out x.out.1)).mono ?_;rintro e w2 ⟨h,t⟩;have D:=ae (d.out.trans (t.mono d.out.size));have G:=ae (l.out.trans (t.mono l.out.size));clear t;cases hd:aZ f k with
   | true =>
    rw[hd] at h;subst h;have E:=ae hd;clear hd;go_wp2
    exact⟨⟨k+1,by omega,by go_num,fun j A=>by
     by_cases e:j=k
     ·subst e;exact E.out
     ·exact s.out j (by omega),G.out⟩,by simp[intOf];omega⟩
   | false =>
    rw[hd] at h;subst h;obtain rfl:r=k:=by rw[z.out];exact eF c hd s.out
    clear hd;go_wp2;go_ret;exact⟨rfl,D.out⟩
  ·have e:n=k:=by omega
   subst e;obtain rfl:r=-1:=by rw[z.out];exact ez s.out
   go_wp2;go_ret;exact⟨rfl,d.out⟩
theorem oN (x:ar)(a0:Option Addr)(b:Nat)(a1:Option Addr)(f:Nat)(w:World):Calls Tryz.prog 174 #[xy x a0 b a1 f] w fun e i=>e=.returned (.bool (decide (x.text.size<=2000) && aT x))/\Below w.heap.size w i:=by
 have d:=ae ((q9 w).alloc ly (.cells #[.string x.name,.int .i64 x.kind,.int .i64 x.code,.string x.text,.slice a0 x.actN b,.slice a1 x.linksN f] 67));obtain⟨r,g⟩:∃ r,r=(decide (x.text.size<=2000) && aT x):=⟨_,rfl⟩
 rw[<-g];have c:=ae g;clear g;go_enter Tryz.func174,Tryz.ntmps174;cases h1:(x.code == 0) with
 | false =>
  obtain rfl:r=false:=by rw[c.out];simp at h1;simp[aT,h1]
  go_wp2;go_ret;exact⟨rfl,d.out⟩
 | true =>
  by_cases h4:(x.text.size:Int)<=2000
  ·have h:decide (x.text.size<=2000)=true:=by simp;omega
   cases h2:((x.actN:Int) == 0) with
   | false =>
    obtain rfl:r=false:=by rw[c.out];simp at h2;simp[aT];omega
    go_wp2;go_ret;exact⟨rfl,d.out⟩
   | true =>
    cases h3:((x.linksN:Int) == 0) with
    | false =>
     obtain rfl:r=false:=by rw[c.out];simp at h3;simp[aT];omega
     go_wp2;go_ret;exact⟨rfl,d.out⟩
    | true =>
     obtain rfl:r=true:=by rw[c.out,h];simp at h1 h2 h3;simp[aT,h1,h2,h3]
     go_wp2;go_ret;exact⟨rfl,d.out⟩
  ·obtain rfl:r=false:=by rw[c.out];simp;omega
   go_wp2;go_ret;exact⟨rfl,d.out⟩
theorem mE (b off n cap p:Nat)(f:Nat->ar)(w:World)(hp:p<n)(S:RowDeed w b off n f)(I:(f p).actN<=1048576)(J:∀ j,j<(f p).actN->((f p).act j).s.size<=maxLen):Calls Tryz.prog 175 #[.agg #[.slice (some ⟨b,off,none⟩) n cap],.int .i64 (p:Int)] w fun e w'=>e=.returned (.bool (decide ((f p).text.size<=2000) && cj f p (f p)))/\Below w.heap.size w w':=by
 have HF:=ae S;have hb:=S.1;obtain⟨p0,p1,p2,p3,⟨a0,d,p4,q4⟩,⟨a1,t,p5,q5⟩⟩:=S.2 p hp;obtain⟨x,hx⟩:∃ x,x=f p:=⟨_,rfl⟩
 rw[<-hx] at p0 p1 p2 p3 p4 p5 q4 q5 I J ⊢;have HX:=ae hx;have Q4:=ae q4;have Q5:=ae q5;have HZ:=ae J;clear hx q4 q5 S J;have y:=ae (((q9 w).alloc ly (.cells #[.slice (some ⟨b,off,none⟩) n cap] 59)).alloc (by simp) (.cells #[.string x.name,.int .i64 x.kind,.int .i64 x.code,.string x.text,.slice a0 x.actN d,.slice a1 x.linksN t] 67));have u:=ae (iS (w.alloc (.cells #[.slice (some ⟨b,off,none⟩) n cap] 59)) (.string x.name) (.int .i64 x.kind) (.int .i64 x.code) (.string x.text) (.slice a0 x.actN d) (.slice a1 x.linksN t) 67);have hz:(w.alloc (.cells #[.slice (some ⟨b,off,none⟩) n cap] 59)).heap.size=w.heap.size+1:=by simp
 rw[hz] at u;have K0:Hid (((w.alloc (.cells #[.slice (some ⟨b,off,none⟩) n cap] 59)).alloc (.cells #[.string x.name,.int .i64 x.kind,.int .i64 x.code,.string x.text,.slice a0 x.actN d,.slice a1 x.linksN t] 67)).cell? ⟨w.heap.size,0,none⟩=some (.slice (some ⟨b,off,none⟩) n cap)):=by show World.cell? _ _=_;simp
 clear hz;obtain⟨r,B⟩:∃ r,r=(decide (x.text.size<=2000) && cj f p x):=⟨_,rfl⟩
 rw[<-B];have C:=ae B;clear B;have c2:=u.out.c2;have c3:=u.out.c3;have c4:=u.out.c4;have c5:=u.out.c5;by_cases g1:0<=x.code;case neg =>
  obtain rfl:r=false:=by rw[C.out];simp[cj,g1]
  go_enter Tryz.func175,Tryz.ntmps175;go_wp2;go_ret;exact⟨rfl,y.out⟩
 by_cases g2:x.code<=5;case neg =>
  obtain rfl:r=false:=by rw[C.out];simp[cj,g2]
  go_enter Tryz.func175,Tryz.ntmps175;go_wp2;go_ret;exact⟨rfl,y.out⟩
 by_cases g3:(x.text.size:Int)<=2000;case neg =>
  obtain rfl:r=false:=by rw[C.out];simp;omega
  go_enter Tryz.func175,Tryz.ntmps175;go_wp2;go_ret;exact⟨rfl,y.out⟩
 have Z:decide (x.text.size<=2000)=true:=by simp;omega
 go_enter Tryz.func175,Tryz.ntmps175;go_wp2_with fail;generalize (w.alloc (.cells #[.slice (some ⟨b,off,none⟩) n cap] 59)).alloc (.cells #[.string x.name,.int .i64 x.kind,.int .i64 x.code,.string x.text,.slice a0 x.actN d,.slice a1 x.linksN t] 67)=W at y u K0 ⊢;clear p0 p1 p2 p3 p4 p5;refine(gJ a0 x.actN d x.act _ I (Q4.out.below y.out ly) HZ.out).mono ?_;rintro e w1 ⟨o,c⟩;have P:=ae (y.out.trans (c.mono y.out.size));have S1:=ae (u.out.below c);have K1:=ae ((c.cell (p:=⟨w.heap.size,0,none⟩) (Nat.lt_of_succ_lt u.out.lt)).trans K0.out);clear c y u K0 c2 c3 c4 c5;have c5:=S1.out.c5;cases hv:valid x.act x.actN with
 | false =>
  rw[hv] at o;subst o;obtain rfl:r=false:=by rw[C.out];simp[cj,hv]
  go_wp2;go_ret;exact⟨rfl,P.out⟩
 | true =>
 rw[hv] at o;subst o;have H:Hid (r=(decide (x.linksN<=200) && bQ f p x x.linksN)):=by show r=_;rw[C.out,Z];simp[cj,hv,g1,g2]
 clear C Z hv;by_cases hbig:(200:Int)<(x.linksN:Int)
 ·obtain rfl:r=false:=by rw[H.out];simp;omega
  go_wp2;go_ret;exact⟨rfl,P.out⟩
 have V:Hid (r=bQ f p x x.linksN):=by show r=_;rw[H.out,show decide (x.linksN<=200)=true by simp;omega];rfl
 clear H;go_wp2;have aq:w.heap.size+1<w1.heap.size:=S1.out.lt;go_loopw [6] (fun i wr=>∃ k:Nat,k<=x.linksN/\i=.int .i64 k/\Hid (bQ f p x k=true)/\Hid (Below w1.heap.size w1 wr)) (fun i _=>x.linksN - (intOf i).toNat);case atStart=>exact⟨0,by omega,rfl,rfl,Below.refl _ _⟩
 case round =>
  obtain⟨k,hk,rfl,HK,M⟩:=hrel;have e5:=(M.out.cell (p:=⟨w.heap.size+1,5,none⟩) aq).trans c5;have Q:=ae (P.out.trans (M.out.mono P.out.size));by_cases E:k<x.linksN
  ·obtain⟨lb,lo,rfl,G⟩:=(Q5.out.below Q.out ly).resolve_left (by omega)
   have Y:=G.2 k E;obtain⟨l,hl⟩:∃ l,l=x.links k:=⟨_,rfl⟩
   rw[<-hl] at Y;obtain⟨d0,d1,d2,d3⟩:=Y;have HS:Hid (bQ f p x (k+1)=eC f p l):=by show(bQ f p x k && eC f p (x.links k))=_;rw[HK.out,Bool.true_and,<-hl]
   clear hl G;have L:=ae (Q.out.alloc Q.out.size (.cells #[.string l.name,.bool l.ask,.bool l.has,.int .i64 l.at_] 73));have D:=ae (M.out.alloc M.out.size (.cells #[.string l.name,.bool l.ask,.bool l.has,.int .i64 l.at_] 73));have K:(wr.alloc (.cells #[.string l.name,.bool l.ask,.bool l.has,.int .i64 l.at_] 73)).cell? ⟨wr.heap.size,0,none⟩=some (.string l.name):=by simp
   have O:(wr.alloc (.cells #[.string l.name,.bool l.ask,.bool l.has,.int .i64 l.at_] 73)).cell? ⟨wr.heap.size,1,none⟩=some (.bool l.ask):=by simp
   have N:(wr.alloc (.cells #[.string l.name,.bool l.ask,.bool l.has,.int .i64 l.at_] 73)).cell? ⟨wr.heap.size,2,none⟩=some (.bool l.has):=by simp
   have R:(wr.alloc (.cells #[.string l.name,.bool l.ask,.bool l.has,.int .i64 l.at_] 73)).cell? ⟨wr.heap.size,3,none⟩=some (.int .i64 l.at_):=by simp
   have g:wr.heap.size<(wr.alloc (.cells #[.string l.name,.bool l.ask,.bool l.has,.int .i64 l.at_] 73)).heap.size:=by simp
   have kA:=(D.out.cell (p:=⟨w.heap.size,0,none⟩) (by show w.heap.size<_;omega)).trans K1.out;have T:w.heap.size<(wr.alloc (.cells #[.string l.name,.bool l.ask,.bool l.has,.int .i64 l.at_] 73)).heap.size:=by have:=D.out.size;omega
   go_wp2_with fail;clear d0 d1 d2 d3 e5;generalize wr.alloc (.cells #[.string l.name,.bool l.ask,.bool l.has,.int .i64 l.at_] 73)=W1 at L D K O N R g kA T ⊢;generalize wr.heap.size=X at K O N R g ⊢;refine(bk l.name _).mono ?_;rintro e w2 ⟨o,c⟩;have z:=ae (L.out.trans (c.mono L.out.size));have C2:=ae (D.out.trans (c.mono D.out.size));have f0:=(c.cell (p:=⟨X,0,none⟩) g).trans K;have f1:=(c.cell (p:=⟨X,1,none⟩) g).trans O;have f2:=(c.cell (p:=⟨X,2,none⟩) g).trans N;have f3:=(c.cell (p:=⟨X,3,none⟩) g).trans R;have kB:=(c.cell (p:=⟨w.heap.size,0,none⟩) T).trans kA;have FR:=ae (HF.out.below z.out ly);clear c K O N R kA L D;have HLT:=ae E;have no:eC f p l=false->r=false:=fun h=>by rw[V.out];exact iR E (HS.out.trans h)
   have m:=ae no;clear no;cases hnm:aw l.name with
   | false =>rw[hnm] at o;subst o;obtain rfl:r=false:=m.out (by rw[dv,hnm];rfl);go_wp2;go_ret;exact⟨rfl,z.out⟩
   | true =>
   rw[hnm] at o;subst o;cases hask:l.ask with
   | false =>
    rw[hask] at f1;cases h1:(l.at_ == 0) with
    | false =>obtain rfl:r=false:=m.out (by simp at h1;rw[dv,hnm];simp[dh,hask,h1]);go_wp2;go_ret;exact⟨rfl,z.out⟩
    | true =>have HN:Hid (bQ f p x (k+1)=true):=HS.out.trans (by simp at h1;rw[dv,hnm];simp[dh,hask,h1]);go_wp2_with fail;go_quiet (fail);have C3:=ae (below_drewN C2.out nq);go_wp2;exact⟨⟨k+1,by omega,by go_num,HN.out,C3.out⟩,by simp[intOf];omega⟩
   | true =>
    rw[hask] at f1;cases hhas:l.has with
    | true =>rw[hhas] at f2;obtain rfl:r=false:=m.out (by rw[dv,hnm];simp[dh,hask,hhas]);go_wp2_with fail;go_quiet (fail);have A:=ae (below_drewN z.out nq);go_wp2;go_ret;exact⟨rfl,A.out⟩
    | false =>
     rw[hhas] at f2;by_cases g4:0<=l.at_
     ·by_cases g5:l.at_<(p:Int)
      ·obtain⟨q,hq⟩:∃ q:Nat,l.at_=(q:Int):=⟨l.at_.toNat,by omega⟩
       rw[hq] at f3 g5;have bt:q<n:=by omega
       have d0:=(FR.out.2 q bt).1;have h5:decide ((p:Int)<=(q:Int))=false:=by simp;omega
       have h5n:decide (p<=q)=false:=by simp;omega
       have h6:decide ((q:Int)<0)=false:=by simp
       have hq0:(0:Int)<=q:=by omega
       have hqn':(q:Int)<n:=by omega
       have U:Hid (dh f p l=((f q).name.toList == l.name.toList)):=by show dh f p l=_;simp[dh,hask,hhas,hq,g5]
       cases B:((f q).name.toList == l.name.toList) with
       | true =>have HN:Hid (bQ f p x (k+1)=true):=HS.out.trans (by rw[dv,hnm,U.out,B];rfl);go_wp2_with fail;go_quiet (fail);have C3:=ae (below_drewN C2.out nq);go_wp2;exact⟨⟨k+1,by omega,by go_num,HN.out,C3.out⟩,by simp[intOf];omega⟩
       | false =>obtain rfl:r=false:=m.out (by rw[dv,hnm,U.out,B];rfl);go_wp2_with fail;go_quiet (fail);have A:=ae (below_drewN z.out nq);go_wp2;go_ret;exact⟨rfl,A.out⟩
      ·obtain rfl:r=false:=m.out (by rw[dv,hnm];simp[dh,hask,g5])
       have h5:(p:Int)<=l.at_:=by omega
       have h6:decide (l.at_<0)=false:=by simpa using g4
       go_wp2_with fail;go_quiet (fail);have A:=ae (below_drewN z.out nq);go_wp2;go_ret;exact⟨rfl,A.out⟩
     ·obtain rfl:r=false:=m.out (by rw[dv,hnm];simp[dh,hask,g4])
      have h6:l.at_<0:=by omega
      go_wp2_with fail;go_quiet (fail);have A:=ae (below_drewN z.out nq);go_wp2;go_ret;exact⟨rfl,A.out⟩
  ·have e:x.linksN=k:=by omega
   obtain rfl:r=true:=by rw[V.out,e];exact HK.out
   have h5:((k:Int)<(x.linksN:Int))=False:=by simp;omega
   go_wp2;go_ret;exact⟨rfl,Q.out⟩
theorem oO (b off n cap p:Nat)(f:Nat->ar)(w:World)(K:p<n)(C:RowDeed w b off n f)(l:(f p).actN<=1048576)(u:∀ j,j<(f p).actN->((f p).act j).s.size<=maxLen):Calls Tryz.prog 114 #[.agg #[.slice (some ⟨b,off,none⟩) n cap],.int .i64 (p:Int)] w fun e z=>e=.returned (.bool (aZ f p))/\Below w.heap.size w z:=by
 have t:=ae (fun z (hb:Below w.heap.size w z)=>mE b off n cap p f z K (C.below hb ly) l u);obtain⟨r,G⟩:∃ r,r=aZ f p:=⟨_,rfl⟩
 rw[<-G];have J:=ae G;clear G;have hb:=C.1;obtain⟨M,S,N,O,⟨a0,g,R,P⟩,⟨a1,i,T,Q⟩⟩:=C.2 p K;obtain⟨x,E⟩:∃ x,x=f p:=⟨_,rfl⟩
 rw[<-E] at M S N O R T P Q l u t;have L:=ae E;clear E P Q C u l;have A:=ae (((q9 w).alloc ly (.cells #[.slice (some ⟨b,off,none⟩) n cap] 59)).alloc (by simp) (.cells #[.string x.name,.int .i64 x.kind,.int .i64 x.code,.string x.text,.slice a0 x.actN g,.slice a1 x.linksN i] 67));have q:=ae (iS (w.alloc (.cells #[.slice (some ⟨b,off,none⟩) n cap] 59)) (.string x.name) (.int .i64 x.kind) (.int .i64 x.code) (.string x.text) (.slice a0 x.actN g) (.slice a1 x.linksN i) 67);have hz:(w.alloc (.cells #[.slice (some ⟨b,off,none⟩) n cap] 59)).heap.size=w.heap.size+1:=by simp
 rw[hz] at q;have H:Hid (((w.alloc (.cells #[.slice (some ⟨b,off,none⟩) n cap] 59)).alloc (.cells #[.string x.name,.int .i64 x.kind,.int .i64 x.code,.string x.text,.slice a0 x.actN g,.slice a1 x.linksN i] 67)).cell? ⟨w.heap.size,0,none⟩=some (.slice (some ⟨b,off,none⟩) n cap)):=by show World.cell? _ _=_;simp
 clear hz;go_enter Tryz.func114,Tryz.ntmps114;go_wp2_with fail;generalize (w.alloc (.cells #[.slice (some ⟨b,off,none⟩) n cap] 59)).alloc (.cells #[.string x.name,.int .i64 x.kind,.int .i64 x.code,.string x.text,.slice a0 x.actN g,.slice a1 x.linksN i] 67)=W at A q H ⊢;clear M S N O R T;refine(bk x.name _).mono ?_;rintro e U ⟨B,k⟩;have d:=ae (A.out.trans (k.mono A.out.size));have m:=ae (q.out.below k);have V:=ae ((k.cell (p:=⟨w.heap.size,0,none⟩) (Nat.lt_of_succ_lt q.out.lt)).trans H.out);clear k A q H;cases hnm:aw x.name with
 | false =>
  rw[hnm] at B;subst B;obtain rfl:r=false:=by rw[J.out];unfold aZ;rw[<-L.out,hnm];rfl
  go_wp2;go_ret;exact⟨rfl,d.out⟩
 | true =>
 rw[hnm] at B;subst B;have o:Hid (r=(decide (x.text.size<=2000) && kindOk f p x)):=by show r=_;rw[J.out];unfold aZ;rw[<-L.out,hnm];rfl
 clear J;have c0:=m.out.c0;have c1:=m.out.c1;have c2:=m.out.c2;have c3:=m.out.c3;have c4:=m.out.c4;have c5:=m.out.c5;cases h1:(x.kind == 1) with
 | true =>
  have y:x.kind=1:=by simpa using h1
  have c:Hid ((decide (x.text.size<=2000) && aT x)=r):=(o.out.trans (by unfold kindOk;rw[if_pos y])).symm;clear y;go_wp2_with fail;refine(oN x a0 g a1 i _).mono ?_;rintro e X ⟨rfl,k⟩;have I:=ae (d.out.trans (k.mono d.out.size));clear k;go_wp2;go_ret;exact⟨tW c.out,I.out⟩
 | false =>
 cases h2:(x.kind == 2) with
 | true =>
  have y:x.kind=2:=by simpa using h2
  have c:Hid (r=(aT x && decide (x.text.size=0))):=o.out.trans (by
   unfold kindOk;rw[if_neg (by omega),if_pos y];by_cases h:x.text.size=0
   ·simp[h]
   ·simp[h])
  clear y o;cases g1:(x.code == 0) with
  | false =>
   obtain rfl:r=false:=by rw[c.out];simp at g1;simp[aT,g1]
   go_wp2;go_ret;exact⟨rfl,d.out⟩
  | true =>
  cases g2:x.text.toList.isEmpty with
  | false =>
   obtain rfl:r=false:=by rw[c.out,<-iT,g2];simp
   go_wp2;go_ret;exact⟨rfl,d.out⟩
  | true =>
  cases g3:((x.actN:Int) == 0) with
  | false =>
   obtain rfl:r=false:=by rw[c.out];simp at g3;simp[aT];omega
   go_wp2;go_ret;exact⟨rfl,d.out⟩
  | true =>
  cases g4:((x.linksN:Int) == 0) with
  | false =>
   obtain rfl:r=false:=by rw[c.out];simp at g4;simp[aT];omega
   go_wp2;go_ret;exact⟨rfl,d.out⟩
  | true =>
   obtain rfl:r=true:=by rw[c.out,<-iT,g2];simp at g1 g3 g4;simp[aT,g1,g3,g4]
   go_wp2;go_ret;exact⟨rfl,d.out⟩
 | false =>
 cases h3:(x.kind == 3) with
 | false =>
  obtain rfl:r=false:=by rw[o.out];unfold kindOk;simp at h1 h2 h3;rw[if_neg h1,if_neg h2,if_neg h3];simp
  go_wp2;go_ret;exact⟨rfl,d.out⟩
 | true =>have c:Hid ((decide (x.text.size<=2000) && cj f p x)=r):=(o.out.trans (by unfold kindOk;simp at h1 h2 h3;rw[if_neg h1,if_neg h2,if_pos h3])).symm;have k1:=V.out;have D:=ae (t.out U d.out);rw[c.out] at D;clear t o;go_wp2_with fail;refine D.out.mono ?_;rintro e X ⟨rfl,k⟩;have I:=ae (d.out.trans (k.mono d.out.size));clear k;go_wp2;go_ret;exact⟨rfl,I.out⟩
end Go.Proofs.YtkophfgkcijjkaaGreatDoor.Vp
