import Derived.Test.YtkophfgkcijjkaaGreatDoorYE
import Derived.Test.YtkophfgkcijjkaaGreatDoorZN
set_option maxRecDepth 100000
set_option maxHeartbeats 8000000
namespace Go.Proofs.YtkophfgkcijjkaaGreatDoor.Vp
open RowKit
theorem fi (a:Option Addr)(n cap:Nat)(f:Nat->ar)(w:World)(hn:(n:Int)<=1048576)(l:SlDeed w a n f)(h:(n:Int)<=cap)(b:∀ i,i<n->cK (f i))(p:Tab w):Calls Tryz.prog 109 #[.agg #[.slice a n cap]] w fun e u=>e=.returned (.bool (bK f n))/\Below w.heap.size w u:=by
 have s:=ae l;have t:=ae b;have o:=ae p;clear l b p;have g:=ae ((q9 w).alloc ly (.cells #[.slice a n cap] 59));obtain⟨r,j⟩:∃ r,r=bK f n:=⟨_,rfl⟩
 rw[<-j];have k:=ae (show r=decide ((dy f n).1=0) from j);clear j;go_enter Tryz.func109,Tryz.ntmps109;go_wp2_with fail;refine(qP a n cap f _ hn (s.out.below g.out ly) h t.out (o.out.below g.out o.out.1)).mono ?_;rintro e w1 ⟨rfl,q⟩;have m:=ae (g.out.trans (q.mono g.out.size));clear q;generalize (dy f n).1=c at k ⊢;generalize (dy f n).2=d;cases r with
 | true =>obtain rfl:c=0:=of_decide_eq_true k.out.symm;go_wp2;go_ret;exact⟨rfl,m.out⟩
 | false =>
  have hc:(c == 0)=false:=by have:¬ c=0:=of_decide_eq_false k.out.symm;simpa using this
  go_wp2;go_ret;exact⟨rfl,m.out⟩
theorem xN:(Tryz.prog.info? 3).map (fun i=>(i.zero,i.size,i.bytes))=some (some (.int .i64 0),1,8):=by kernel_rfl
theorem SixB.blk {w w':World}{b:Nat}{d i j k g f:Value}(h:SixB w b d i j k g f)(hz:w.heap.size<=w'.heap.size)(e:w'.heap[b]?=w.heap[b]?):SixB w' b d i j k g f :=
 have c:∀ o,w'.cell? ⟨b,o,none⟩=w.cell? ⟨b,o,none⟩:=fun o=>cq (a:=⟨b,o,none⟩) e
 ⟨lj h.lt hz,(c 0).trans h.c0,(c 1).trans h.c1,(c 2).trans h.c2,(c 3).trans h.c3,(c 4).trans h.c4,(c 5).trans h.c5⟩
theorem TyAt.blk {w w':World}{g:Nat}{e:TypeId}(h:TyAt w g e)(hb:w'.heap[g]?=w.heap[g]?):TyAt w' g e:=by obtain⟨c,b⟩:=h;exact⟨c,hb.trans b⟩
theorem Kpt.grown {H M f n:Nat}{W i:World}{v:Value}{o:List Value}(l:W.ownsRow f 3 1 v n o)(h:W.grownBy i v.ownBlock):Kpt H M W i:=by
 refine⟨h.size,fun k e p m _ _=>?_⟩;obtain⟨c,b⟩:=p;refine h.block k (Array.getElem?_eq_some_iff.1 b).1 (fun d=>?_);rcases l.2 with ⟨rfl,_⟩ | ⟨g,cap,cur,rfl,_,j,_⟩
 ·simp[Value.ownBlock] at d
 ·simp[Value.ownBlock] at d
  subst d;rw[j] at b;simp at b;exact m b.2.symm
theorem SLs.app {f W d:World}{n1 b off n cap H M:Nat}{s:Nat->Bool}{p v:Value}{ord ord':List Nat}{m:Int}(h:SLs f W n1 b off n cap H M s p ord m)(hz:W.heap.size<=d.heap.size)(k:d.heap[H]?=W.heap[H]?)(l:d.heap[M]?=W.heap[M]?)(r:Below f.heap.size f d)(i:d.ownsRow n1 3 1 v ord'.length (ord'.map fun q:Nat=>Value.int .i64 (q:Int))):SLs f (d.setCell ⟨H,2,none⟩ v) n1 b off n cap H M s v ord' m:=by
 have c:∀ o,d.cell? ⟨H,o,none⟩=W.cell? ⟨H,o,none⟩:=fun o=>cq (a:=⟨H,o,none⟩) k;have z:∀ o,d.frozen? ⟨H,o,none⟩=W.frozen? ⟨H,o,none⟩:=fun o=>World.frozen?_of_block (a:=⟨H,o,none⟩) k;have g:∀ o,o≠2->(d.setCell ⟨H,2,none⟩ v).cell? ⟨H,o,none⟩=d.cell? ⟨H,o,none⟩:=fun o i=>sq _ _ _ _ (by first | (simp;done) | (simp;exact fun e=>i e.symm) | (simp;omega));refine⟨(g 0 (by omega)).trans ((c 0).trans h.c0),(g 1 (by omega)).trans ((c 1).trans h.c1),⟨World.cell?_setCell_same' _ _ _ (by rw[c 2,h.c2.1];rfl),?_⟩,⟨(g 3 (by omega)).trans ((c 3).trans h.c3.1),?_⟩,fun q j=>⟨(sq _ _ _ _ (by first | (simp;done) | (simp;exact fun e=>absurd e.symm h.ne) | (simp;exact fun e=>absurd e h.ne) | (simp;omega))).trans ((cq (a:=⟨M,q,none⟩) l).trans (h.row q j).1),?_⟩,kV i h.hH.2 _,r.setCell h.hH.1 _,h.hH,h.hM,h.ne,by have:=h.hz;simp;omega⟩
 ·rw[World.frozen?_setCell];exact(z 2).trans h.c2.2
 ·rw[World.frozen?_setCell];exact(z 3).trans h.c3.2
 ·rw[World.frozen?_setCell];exact(World.frozen?_of_block (a:=⟨M,q,none⟩) l).trans (h.row q j).2
theorem ui (t:World)(n1 b off n cap H M:Nat)(f:Nat->ar)(hA:fa f n)(hn:(n:Int)<=400)(hf:RowDeed t b off n f)(hlk:∀ p,p<n->(f p).linksN<=200):∀ (k p d:Nat) (s:Nat->Bool) (T:Value) (ord:List Nat) (m:Int) (W:World),p<k->p<n->d+p<=1000->SLs t W n1 b off n cap H M s T ord m->s p=false->ord.length+(lst f k p d s).2.length<=1000 ->
   Calls Tryz.prog 176 #[.pointer (some ⟨H,0,none⟩),.int .i64 (p:Int),.int .i64 (d:Int)] W fun e W'=>e=.returned (.tuple #[])/\∃ u,SLs t W' n1 b off n cap H M (lst f k p d s).1 u (ord++(lst f k p d s).2.map (fun z:Nat × Nat=>z.1)) (cF f m (lst f k p d s).2)/\Kpt H M W W':=by
 intro k;induction k with
 | zero=>intro p d s T ord m W h;omega
 | succ k ih =>
  intro p d s T ord m W hpk Y hdp hS hs hN;have HS:=ae hS;have HN:=ae hN;have Ao:=ae ih;have HA:=ae hA;have HF:=ae hf;have HLK:=ae hlk;obtain⟨zU,zS,Ag,Ab,Aq⟩:=info_parts xN;obtain⟨ro,n8,la,zF,⟨a0,r,th,q4⟩,⟨a1,o,n9,q5⟩⟩:=hf.2 p Y;have R:=ae (hS.mark Y);have hb:=hf.1;obtain⟨x,hx⟩:∃ x,x=f p:=⟨_,rfl⟩
  rw[<-hx] at ro n8 la zF th n9 q5;have hm2:x.linksN<=200:=by rw[hx];exact hlk p Y
  have HL:=ae q5;have HX:=ae hx;have p0:=(R.out.low.cell (p:=⟨b,off+p*6,none⟩) hb).trans ro;have p1:=(R.out.low.cell (p:=⟨b,off+p*6+1,none⟩) hb).trans n8;have p2:=(R.out.low.cell (p:=⟨b,off+p*6+2,none⟩) hb).trans la;have p3:=(R.out.low.cell (p:=⟨b,off+p*6+3,none⟩) hb).trans zF;have p4:=(R.out.low.cell (p:=⟨b,off+p*6+4,none⟩) hb).trans th;have p5:=(R.out.low.cell (p:=⟨b,off+p*6+5,none⟩) hb).trans n9;obtain⟨K,hK⟩:∃ K,K=lks (lst f k) (f p) d s:=⟨_,rfl⟩
  have zE:Hid (lst f (k+1) p d s=(put (K x.linksN).1 p,(K x.linksN).2++[(p,d)])):=by rw[hK,hx];rfl
  have Ac:Hid (K 0=(s,[])):=by rw[hK];rfl
  have Ae:Hid (∀ j,K (j+1)=if (x.links j).ask=true/\(K j).1 (x.links j).at_.toNat=false then ((lst f k (x.links j).at_.toNat (d+1) (K j).1).1,(K j).2++(lst f k (x.links j).at_.toNat (d+1) (K j).1).2) else K j):=fun j=>by rw[hK,hx];rfl
  have zV:Hid (∀ i,i<=x.linksN->(K i).2 <+: (K x.linksN).2):=fun i hi=>by rw[hK];exact lN hi
  have Z:Hid (cG f m (p,d)=if x.kind=3/\60<=d/\(m<0∨(p:Int)<m) then (p:Int) else m):=by rw[hx];rfl
  have An:H<W.heap.size:=by have:=hS.hH;have:=hS.hz;omega
  have Al:=hS.c1;obtain⟨zT,zZ⟩:=hS.row p Y;have Aa:=R.out.c0;have hp0:(0:Int)<=p:=by omega
  have hpn':(p:Int)<n:=by omega
  have N:=ae (R.out.below (br.alloc ly (.cells #[.string x.name,.int .i64 x.kind,.int .i64 x.code,.string x.text,.slice a0 x.actN r,.slice a1 x.linksN o] 67)));have L:=ae (iS (W.setCell ⟨M,p,none⟩ (.bool true)) (.string x.name) (.int .i64 x.kind) (.int .i64 x.code) (.string x.text) (.slice a0 x.actN r) (.slice a1 x.linksN o) 67);have S:Hid (TyAt ((W.setCell ⟨M,p,none⟩ (.bool true)).alloc (.cells #[.string x.name,.int .i64 x.kind,.int .i64 x.code,.string x.text,.slice a0 x.actN r,.slice a1 x.linksN o] 67)) (W.setCell ⟨M,p,none⟩ (.bool true)).heap.size 67):=⟨_,heap_alloc_new _ _⟩
  have C:=ae ((Kpt.setCell (H:=H) (M:=M) (j:=p) W M (.inr rfl) (.bool true)).trans (Kpt.of_below (br.alloc ly (.cells #[.string x.name,.int .i64 x.kind,.int .i64 x.code,.string x.text,.slice a0 x.actN r,.slice a1 x.linksN o] 67))));have zJ:(W.setCell ⟨M,p,none⟩ (.bool true)).heap.size=W.heap.size:=by simp
  rw[zJ] at L S;clear hS hN ih hA hf hlk q4 q5 hx hK ro n8 la zF th n9 hs zJ R;go_enter Tryz.func176,Tryz.ntmps176;go_upto_region 2 with fail;generalize (W.setCell ⟨M,p,none⟩ (.bool true)).alloc (.cells #[.string x.name,.int .i64 x.kind,.int .i64 x.code,.string x.text,.slice a0 x.actN r,.slice a1 x.linksN o] 67)=W2 at N L S C ⊢;clear p0 p1 p2 p3 p4 p5 Al zT zZ Aa;obtain⟨td,V⟩:∃ td,td=decide (x.kind=3/\60<=d):=⟨_,rfl⟩
  have HD:=ae V;clear V;have c1:=L.out.c1;go_cut [28] (fun Ad wx=>Ad=.bool td/\wx=W2);case first =>
   cases J:(x.kind == 3) with
   | false =>
    obtain rfl:td=false:=by rw[HD.out];simp at J;simp[J]
    go_wp2;go_meet;exact⟨rfl,rfl⟩
   | true =>
    by_cases h6:(60:Int)<=(d:Int)
    ·obtain rfl:td=true:=by rw[HD.out];simp at J;simp[J];omega
     go_wp2;go_meet;exact⟨by first | rfl | (simp;done) | (simp;omega),rfl⟩
    ·obtain rfl:td=false:=by rw[HD.out];simp;omega
     go_wp2;go_meet;exact⟨by first | rfl | (simp;done) | (simp;omega),rfl⟩
  case rest =>
  obtain⟨rfl,rfl⟩:=hcut;clear c1;have hHD:H<W.heap.size:=An;go_upto_if 28 with fail;go_cut [] (fun wx=>Hid (SLs t wx n1 b off n cap H M (put s p) T ord (cG f m (p,d)))/\Hid (SixB wx W.heap.size (.string x.name) (.int .i64 x.kind) (.int .i64 x.code) (.string x.text) (.slice a0 x.actN r) (.slice a1 x.linksN o))/\Hid (TyAt wx W.heap.size 67)/\Hid (Kpt H M W wx));case first =>
   cases td with
   | false =>
    have G:cG f m (p,d)=m:=by rw[Z.out,if_neg (fun h=>by have:=HD.out;simp at this;have:=this h.1;omega)]
    have l:Hid (SLs t wc n1 b off n cap H M (put s p) T ord (cG f m (p,d))):=by show SLs _ _ _ _ _ _ _ _ _ _ _ _ _;rw[G];exact N.out
    clear G;go_wp2;go_meet;exact⟨l.out,L.out,S.out,C.out⟩
   | true =>
    have V:x.kind=3/\60<=d:=by have:=HD.out;simpa using this
    obtain⟨e3,z3⟩:=N.out.c3;have U:=ae V;clear V;have e4:(wc.setCell ⟨H,3,none⟩ (.int .i64 (p:Int))).heap[W.heap.size]?=wc.heap[W.heap.size]?:=qh _ _ _ _ (by show W.heap.size≠H;omega);have SP:=ae (N.out.deep (p:Int));have DP:=ae (L.out.blk (w':=wc.setCell ⟨H,3,none⟩ (.int .i64 (p:Int))) (by simp) e4);have YP:=ae (S.out.blk e4);have zI:=ae (C.out.trans (Kpt.setCell (H:=H) (M:=M) (j:=3) wc H (.inl rfl) (.int .i64 (p:Int))));clear e4;by_cases g1:m<0
    ·have G:cG f m (p,d)=(p:Int):=by rw[Z.out,if_pos ⟨U.out.1,U.out.2,.inl g1⟩]
     have l:Hid (SLs t (wc.setCell ⟨H,3,none⟩ (.int .i64 (p:Int))) n1 b off n cap H M (put s p) T ord (cG f m (p,d))):=by show SLs _ _ _ _ _ _ _ _ _ _ _ _ _;rw[G];exact SP.out
     clear G;go_wp2;go_meet;exact⟨l.out,DP.out,YP.out,zI.out⟩
    ·by_cases g2:(p:Int)<m
     ·have G:cG f m (p,d)=(p:Int):=by rw[Z.out,if_pos ⟨U.out.1,U.out.2,.inr g2⟩]
      have l:Hid (SLs t (wc.setCell ⟨H,3,none⟩ (.int .i64 (p:Int))) n1 b off n cap H M (put s p) T ord (cG f m (p,d))):=by show SLs _ _ _ _ _ _ _ _ _ _ _ _ _;rw[G];exact SP.out
      clear G;go_wp2;go_meet;exact⟨l.out,DP.out,YP.out,zI.out⟩
     ·have G:cG f m (p,d)=m:=by rw[Z.out,if_neg (fun h=>by have:=h.2.2;omega)]
      have l:Hid (SLs t wc n1 b off n cap H M (put s p) T ord (cG f m (p,d))):=by show SLs _ _ _ _ _ _ _ _ _ _ _ _ _;rw[G];exact N.out
      clear G;go_wp2;go_meet;exact⟨l.out,L.out,S.out,C.out⟩
  case rest =>
  clear N L S C;obtain⟨N,L,S,C⟩:=hcut;obtain⟨B,aq⟩:∃ B,B=cG f m (p,d):=⟨_,rfl⟩
  rw[<-aq] at N;have zP:=ae aq;clear aq Z;have Am:Hid (B=cG f m (p,d)):=zP.out;go_wp2;go_loopw [7] (fun i wr=>∃ (j:Nat) (u:Value),j<=x.linksN/\i=.int .i64 j/\Hid (SLs t wr n1 b off n cap H M (put (K j).1 p) u (ord++(K j).2.map (fun z:Nat × Nat=>z.1)) (cF f B (K j).2))/\Hid (SixB wr W.heap.size (.string x.name) (.int .i64 x.kind) (.int .i64 x.code) (.string x.text) (.slice a0 x.actN r) (.slice a1 x.linksN o))/\Hid (TyAt wr W.heap.size 67)/\Hid (Kpt H M W wr)) (fun i _=>x.linksN - (intOf i).toNat);case atStart=>exact⟨0,T,by omega,rfl,by rw[Ac.out];simp only[List.map_nil,List.append_nil,cF];exact N.out,L.out,S.out,C.out⟩
  case round =>
   clear N L S C;obtain⟨j,u,hj,rfl,l,D3,Y3,fd⟩:=hrel;have e5:=D3.out.c5;have Q:W.heap.size<wr.heap.size:=D3.out.lt;by_cases zG:j<x.linksN
   ·obtain⟨lb,lo,rfl,zD⟩:=(HL.out.below l.out.low ly).resolve_left (by omega)
    obtain⟨l0,l1,l2,l3⟩:=zD.2 j zG;have ld:=Ae.out j;have mv:(x.links j).ask=true->(x.links j).at_.toNat<p/\0<=(x.links j).at_:=fun h=>by have:=HA.out p Y j (by rw[<-HX.out];exact zG);rw[<-HX.out] at this;exact this h
    generalize x.links j=y at l0 l1 l2 l3 ld mv;have qr:=ae ld;have zK:=ae mv;clear ld mv l0 l2 zD;cases hask:y.ask with
    | false =>
     rw[hask] at l1;have A:K (j+1)=K j:=by rw[qr.out,if_neg (by rw[hask];simp)]
     have X:=ae A;clear A;go_wp2_with fail;go_quiet (fail);have E:=ae (below_drewN (q9 wr) nq);have S4:=ae (l.out.below E.out);have D4:=ae (D3.out.blk E.out.size (E.out.block _ Q));have Y4:=ae (Y3.out.blk (E.out.block _ Q));have P:=ae (fd.out.trans (Kpt.of_below E.out));go_wp2;exact⟨⟨j+1,u,by omega,by go_num,by rw[X.out];exact S4.out,D4.out,Y4.out,P.out⟩,by simp[intOf];omega⟩
    | true =>
     rw[hask] at l1;obtain⟨q,hq⟩:∃ q:Nat,y.at_=(q:Int):=⟨y.at_.toNat,by have:=(zK.out hask).2;omega⟩
     have Ah:q<p:=by have:=(zK.out hask).1;rw[hq] at this;simpa using this
     rw[hq] at l3;have f1:=l.out.c1;obtain⟨f2,_⟩:=l.out.row q (by omega);have ur:put (K j).1 p q=(K j).1 q:=by simp[put];omega
     rw[ur] at f2;have hq0:(0:Int)<=q:=by omega
     have hqn:(q:Int)<n:=by omega
     have Ar:=ae ur;clear ur;cases hl:(K j).1 q with
     | true =>
      rw[hl] at f2;have A:K (j+1)=K j:=by rw[qr.out,if_neg (by rw[hq];simp[hl])]
      have X:=ae A;clear A;go_wp2_with fail;go_quiet (fail);have E:=ae (below_drewN (q9 wr) nq);have S4:=ae (l.out.below E.out);have D4:=ae (D3.out.blk E.out.size (E.out.block _ Q));have Y4:=ae (Y3.out.blk (E.out.block _ Q));have P:=ae (fd.out.trans (Kpt.of_below E.out));go_wp2;exact⟨⟨j+1,u,by omega,by go_num,by rw[X.out];exact S4.out,D4.out,Y4.out,P.out⟩,by simp[intOf];omega⟩
     | false =>
      rw[hl] at f2;have A:K (j+1)=((lst f k q (d+1) (K j).1).1,(K j).2++(lst f k q (d+1) (K j).1).2):=by rw[qr.out,if_pos ⟨hask,by rw[hq];simpa using hl⟩,hq];simp
      have X:=ae A;have sm:=zV.out (j+1) (by omega);rw[A] at sm;have Ai:=ae sm;have Ak:=ae hl;clear A sm;have ex:((d+1:Nat):Int)=(d:Int)+1:=by omega
      have HC:Hid (∀ W5,SLs t W5 n1 b off n cap H M (put (K j).1 p) u (ord++(K j).2.map (fun z:Nat × Nat=>z.1)) (cF f B (K j).2)->Calls Tryz.prog 176 #[.pointer (some ⟨H,0,none⟩),.int .i64 (q:Int),.int .i64 ((d:Int)+1)] W5 fun e W'=>e=.returned (.tuple #[])/\∃ I,SLs t W' n1 b off n cap H M (put (K (j+1)).1 p) I (ord++(K (j+1)).2.map (fun z:Nat × Nat=>z.1)) (cF f B (K (j+1)).2)/\Kpt H M W5 W'):=by
       intro W5 h5;have zH:=rG HA.out k q (d+1) (K j).1 p (by omega) Ah;have zM:(ord++(K j).2.map (fun z:Nat × Nat=>z.1)).length+(lst f k q (d+1) (put (K j).1 p)).2.length<=1000:=by rw[zH];have J:=HN.out;rw[zE.out] at J;have h4:=Ai.out.length_le;simp only[List.length_append,List.length_cons,List.length_nil,List.length_map] at J h4 ⊢;omega
       have h:=Ao.out q (d+1) (put (K j).1 p) u (ord++(K j).2.map (fun z:Nat × Nat=>z.1)) (cF f B (K j).2) W5 (by omega) (by omega) (by omega) h5 (Ar.out.trans Ak.out) zM;rw[ex,zH] at h;refine h.mono fun e W' h=>?_;obtain⟨he,I,hs,hk⟩:=h;refine⟨he,I,?_,hk⟩;rw[X.out];simp only[List.map_append,jF,<-List.append_assoc];exact hs
      clear ex;go_wp2_with fail;go_quiet (fail);have E:=ae (below_drewN (q9 wr) nq);have S4:=ae (l.out.below E.out);have D4:=ae (D3.out.blk E.out.size (E.out.block _ Q));have Y4:=ae (Y3.out.blk (E.out.block _ Q));have P:=ae (fd.out.trans (Kpt.of_below E.out));have g5:=D4.out.c5;have zL:=(E.out.cell (p:=⟨lb,lo+j*4+3,none⟩) (by have:=(HL.out.below l.out.low ly);rcases this with h | ⟨b',o',hv,hr⟩;(omega);(cases hv;exact hr.1))).trans l3;clear e5 f1 f2 l1 l3;generalize wr.drewN nq=W5 at S4 D4 Y4 P g5 zL ⊢;go_wp2_with fail;refine(HC.out W5 S4.out).mono ?_;rintro e W6 ⟨rfl,I,hs,hk⟩;have S5:=ae hs;have eD:=hk.keep W.heap.size _ Y4.out (by decide) (by omega) (by have:=HS.out.hM;have:=HS.out.hz;omega);have D5:=ae (D4.out.blk hk.size eD);have Y5:=ae (Y4.out.blk eD);have zR:=ae (P.out.trans hk);clear hs hk eD g5 zL;go_wp2;exact⟨⟨j+1,I,by omega,by go_num,S5.out,D5.out,Y5.out,zR.out⟩,by simp[intOf];omega⟩
   ·have e:j=x.linksN:=by omega
    subst e;obtain⟨f2,z2⟩:=l.out.c2;obtain⟨oa,oc,rfl⟩:∃ a c,u=.slice a (ord++(K x.linksN).2.map (fun z:Nat × Nat=>z.1)).length c:=by
     rcases l.out.ord.2 with ⟨h1,h2⟩ | ⟨g,c,zX,h1,_⟩
     ·exact⟨none,0,by rw[h1,h2]⟩
     ·exact⟨_,_,h1⟩
    have Aj:(ord++(K x.linksN).2.map (fun z:Nat × Nat=>z.1)).length<=1000:=by have J:=HN.out;rw[zE.out] at J;simp only[List.length_append,List.length_cons,List.length_nil,List.length_map] at J ⊢;omega
    generalize hO:ord++(K x.linksN).2.map (fun z:Nat × Nat=>z.1)=O at l f2 Aj ⊢;have HO:=ae hO;clear hO;have zY:H<wr.heap.size:=by have:=l.out.hH;have:=l.out.hz;omega
    have zW:M<wr.heap.size:=by have:=l.out.hM;have:=l.out.hz;omega
    go_wp2_with (at_builtin;refine wpList_append_own _ rfl (.tmp 88) (.tmp 90) 162 rfl n1 3 zU (.int .i64 0) 1 8 Tryz.underlying162 zS Ag Ab Aq rfl (by decide) _ O.length (O.map fun q:Nat=>Value.int .i64 (q:Int)) (by simp[Act.eval]) (l.out.ord.alloc _) ⟨wr.heap.size,0,none⟩ 1 1 [.int .i64 (p:Int)] (by simp[Act.eval]) rfl (cell_one_new _ _ _) (by simp[Value.oneCell']) (by unfold maxLen;omega) (by omega) (by have:=l.out.hz;simp;omega) ?_;intro vy wy bt D zO;have OW:Hid (wy.ownsRow n1 3 1 vy (O++[p]).length ((O++[p]).map fun q:Nat=>Value.int .i64 (q:Int))):=(by show World.ownsRow _ _ _ _ _ _ _;rw[List.length_append,List.map_append];exact bt);have GR:=ae D;have eH:wy.heap[H]?=wr.heap[H]?:=(D.block H (by simp;omega) (fun e=>by have:=(l.out.ord.lt H e.symm).1;have:=l.out.hH.2;omega)).trans (((q9 wr).alloc ly _).block _ zY);have eM:wy.heap[M]?=wr.heap[M]?:=(D.block M (by simp;omega) (fun e=>by have:=(l.out.ord.lt M e.symm).1;have:=l.out.hM.2;omega)).trans (((q9 wr).alloc ly _).block _ zW);have g2:=(cq (a:=⟨H,2,none⟩) eH).trans f2;have y2:=(World.frozen?_of_block (a:=⟨H,2,none⟩) eH).trans z2;obtain⟨gs,cs,rfl⟩:∃ g c,vy=.slice (some ⟨g,0,none⟩) (O.length+1) c:=(by rcases bt.2 with ⟨_,h2⟩ | ⟨g,c,zX,h1,_⟩;(omega);exact⟨g,c,h1⟩);have EH:=ae eH;have EM:=ae eM;clear bt D zO eH eM);have AL:=(q9 wr).alloc ly (.cells #[.int .i64 (p:Int)] 3);have Ap:wr.heap.size<=wy.heap.size:=Nat.le_trans AL.size GR.out.size;have zN:Below t.heap.size t wy:=bg (l.out.low.alloc l.out.low.size (.cells #[.int .i64 (p:Int)] 3)) GR.out (by have:=l.out.low.size;simp;omega) (fun j e=>by have:=(l.out.ord.lt j e).1;have:=l.out.hH;omega);have F1:=l.out.app (v:=.slice (some ⟨gs,0,none⟩) (O.length+1) cs) (ord':=O++[p]) Ap EH.out EM.out zN OW.out;have F2:=((fd.out.trans (Kpt.of_below AL)).trans (Kpt.grown (l.out.ord.alloc (.cells #[.int .i64 (p:Int)] 3)) GR.out)).trans (Kpt.setCell (H:=H) (M:=M) (j:=2) wy H (.inl rfl) (.slice (some ⟨gs,0,none⟩) (O.length+1) cs));have zQ:cF f m ((K x.linksN).2++[(p,d)])=cF f B (K x.linksN).2:=by rw[jF,Am.out,qF];rfl
    have Af:ord++((K x.linksN).2++[(p,d)]).map (fun z:Nat × Nat=>z.1)=O++[p]:=by rw[List.map_append,<-List.append_assoc,HO.out];rfl
    go_end0;rw[zE.out];refine⟨rfl,.slice (some ⟨gs,0,none⟩) (O.length+1) cs,?_,F2⟩;show SLs t _ n1 b off n cap H M (put (K x.linksN).1 p) _ (ord++((K x.linksN).2++[(p,d)]).map (fun z:Nat × Nat=>z.1)) (cF f m ((K x.linksN).2++[(p,d)]));rw[zQ,Af];exact F1
theorem uj {L:List (Nat × Nat)}:∀ {i:Nat},(∀ j (h:j<L.length),(L[j]).1=i+j)->bj i L=-1:=by
 induction L with
 | nil=>intro i _;rfl
 | cons x xs c =>intro i h;have b:=h 0 (by simp);simp at b;rw[bj,if_pos b];refine c fun j d=>?_;have:=h (j+1) (by simpa using d);simp at this;omega
theorem vT {L:List (Nat × Nat)}:∀ {i j:Nat} (c:j<L.length),(∀ m (h:m<j),(L[m]).1=i+m)->(L[j]).1≠i+j->bj i L=((i+j:Nat):Int):=by
 induction L with
 | nil=>intro i j c;simp at c
 | cons x xs f =>
  intro i j c h b;cases j with
  | zero =>simp at b;rw[bj,if_neg b];simp
  | succ j =>
   have d:=h 0 (by omega);simp at d;rw[bj,if_pos d,f (i:=i+1) (j:=j) (by simpa using c) (fun m hm=>?_) (by simpa[Nat.add_assoc,Nat.add_comm 1 j] using b)]
   ·congr 1;omega
   ·have:=h (m+1) (by omega)
    simp at this;omega
theorem kG {f:Nat->ar}{d:Int}:∀ {L:List (Nat × Nat)},0<=d->(∀ x∈L,d<=(x.1:Int))->cF f d L=d
 | [],_,_=>rfl
 | x :: xs,h,hx=>by
  have c:cG f d x=d:=by unfold cG;rw[if_neg (fun h2=>by have:=hx x (by simp);omega)]
  rw[cF,c];exact kG h fun y b=>hx y (by simp[b])
theorem jL {f:Nat->ar}:∀ {L:List (Nat × Nat)} {i:Nat},(∀ j (h:j<L.length),(L[j]).1=i+j)->cF f (-1) L=aW f L
 | [],_,_=>rfl
 | x :: xs,i,h=>by
  have m:=h 0 (by simp);simp at m;have g:∀ j (c:j<xs.length),(xs[j]).1=i+1+j:=fun j c=>by have:=h (j+1) (by simpa using c);simp at this;omega
  rw[cF,aW];by_cases b:(f x.1).kind=3/\60<=x.2
  ·have d:cG f (-1) x=(x.1:Int):=by unfold cG;rw[if_pos ⟨b.1,b.2,.inl (by omega)⟩]
   rw[if_pos b,d];refine kG (by omega) fun y l=>?_;obtain⟨j,c,rfl⟩:=List.getElem_of_mem l;have:=g j c;omega
  ·have d:cG f (-1) x=-1:=by unfold cG;rw[if_neg (fun k=>b ⟨k.1,k.2.1⟩)]
   rw[if_neg b,d];exact jL g
theorem jM {f:Nat->ar}{n:Nat}(hn:1<=n):∃ o,aE f n=o++[(n - 1,0)]:=by
 obtain⟨k,rfl⟩:∃ k,n=k+1:=⟨n - 1,by omega⟩
 exact⟨_,rfl⟩
theorem pk {f:Nat->ar}{n:Nat}(hn:1<=n)(h:∀ j (hj:j<(aE f n).length),((aE f n)[j]).1=j):(aE f n).length=n:=by
 obtain⟨o,b⟩:=jM (f:=f) hn;have hl:(aE f n).length=o.length+1:=by rw[b];simp
 have:=h o.length (by omega);simp only[b] at this;simp at this;omega
theorem yJ {f:Nat->ar}{p k m:Nat}(hk:k<m)(h:aS f p (k+1)=false):aS f p m=false:=by
 induction m with
 | zero=>omega
 | succ j b =>
  by_cases e:k=j
  ·subst e;exact h
  ·rw[aS,b (by omega)];rfl
structure zp (w:World)(b:Nat)(v0 v1 v2 v3:Value):Prop where
 c0:w.cell? ⟨b,0,none⟩=some v0
 c1:w.cell? ⟨b,1,none⟩=some v1
 c2:w.cell? ⟨b,2,none⟩=some v2
 c3:w.cell? ⟨b,3,none⟩=some v3
 z2:w.frozen? ⟨b,2,none⟩=false
 z3:w.frozen? ⟨b,3,none⟩=false
theorem vU (w:World)(b c f d:Value)(t:TypeId):zp (w.alloc (.cells #[b,c,f,d] t)).drew w.heap.size b c f d:=⟨by simp,by simp,by simp,by simp,by simp,by simp⟩
theorem xO {w:World}{b off n cap:Nat}:SLs w (((w.alloc (.cells #[.slice (some ⟨b,off,none⟩) n cap] 59)).alloc (.cells (bc n) 4)).alloc (.cells #[.slice (some ⟨b,off,none⟩) n cap,.slice (some ⟨w.heap.size+1,0,none⟩) n n,.slice none 0 0,.int .i64 (-1)] 164)).drew (w.heap.size+1+1+1) b off n cap (w.heap.size+1+1) (w.heap.size+1) (fun _=>false) (.slice none 0 0) [] (-1):=by
 have f:(w.alloc (.cells #[.slice (some ⟨b,off,none⟩) n cap] 59)).heap.size=w.heap.size+1:=by simp
 have g:((w.alloc (.cells #[.slice (some ⟨b,off,none⟩) n cap] 59)).alloc (.cells (bc n) 4)).heap.size=w.heap.size+1+1:=by simp
 have A:=(((q9 w).alloc ly (.cells #[.slice (some ⟨b,off,none⟩) n cap] 59)).alloc (by simp) (.cells (bc n) 4)).alloc (by simp;omega) (.cells #[.slice (some ⟨b,off,none⟩) n cap,.slice (some ⟨w.heap.size+1,0,none⟩) n n,.slice none 0 0,.int .i64 (-1)] 164);have D:Below (w.heap.size+1+1) ((w.alloc (.cells #[.slice (some ⟨b,off,none⟩) n cap] 59)).alloc (.cells (bc n) 4)) (((w.alloc (.cells #[.slice (some ⟨b,off,none⟩) n cap] 59)).alloc (.cells (bc n) 4)).alloc (.cells #[.slice (some ⟨b,off,none⟩) n cap,.slice (some ⟨w.heap.size+1,0,none⟩) n n,.slice none 0 0,.int .i64 (-1)] 164)).drew:=(br.alloc (by omega) _).drew;have hM:=fun q d=>lO (w.alloc (.cells #[.slice (some ⟨b,off,none⟩) n cap] 59)) n q d;rw[f] at hM;have c:=vU ((w.alloc (.cells #[.slice (some ⟨b,off,none⟩) n cap] 59)).alloc (.cells (bc n) 4)) (.slice (some ⟨b,off,none⟩) n cap) (.slice (some ⟨w.heap.size+1,0,none⟩) n n) (.slice none 0 0) (.int .i64 (-1)) 164;rw[g] at c;refine⟨c.c0,c.c1,⟨c.c2,c.z2⟩,⟨c.c3,c.z3⟩,fun q d=>⟨(D.cell (p:=⟨w.heap.size+1,q,none⟩) (Nat.lt_succ_self _)).trans (hM q d).1,(D.frozen (p:=⟨w.heap.size+1,q,none⟩) (Nat.lt_succ_self _)).trans (hM q d).2⟩,World.ownsRow_nil _ _ _ _,A.drew,by omega,by omega,by omega,?_⟩;simp
theorem qQ (b off n cap:Nat)(f:Nat->ar)(w:World)(j:fa f n)(hn1:1<=n)(hn:(n:Int)<=400)(o:RowDeed w b off n f)(hlk:∀ p,p<n->(f p).linksN<=200):Calls Tryz.prog 115 #[.agg #[.slice (some ⟨b,off,none⟩) n cap],.int .i64 ((n:Int) - 1)] w fun e d=>∃ H g,e=.returned (.pointer (some ⟨H,0,none⟩))/\H<d.heap.size/\d.cell? ⟨H,2,none⟩=some g/\d.ownsRow w.heap.size 3 1 g (aE f n).length ((aE f n).map fun z:Nat × Nat=>Value.int .i64 (z.1:Int))/\d.cell? ⟨H,3,none⟩=some (.int .i64 (cF f (-1) (aE f n)))/\Below w.heap.size w d:=by
 have r:(w.alloc (.cells #[.slice (some ⟨b,off,none⟩) n cap] 59)).cell? ⟨w.heap.size,0,none⟩=some (.slice (some ⟨b,off,none⟩) n cap):=by simp
 have l:=iD j hn1;have i:=ui w (w.heap.size+1+1+1) b off n cap (w.heap.size+1+1) (w.heap.size+1) f j hn o hlk n (n - 1) 0 (fun _=>false) (.slice none 0 0) [] (-1) _ (by omega) (by omega) (by omega) xO rfl (by have:=l;unfold aE at this;simp;omega);rw[show((n - 1:Nat):Int)=(n:Int) - 1 by omega] at i;have s:=ae i;have m:=fun w=>uh n (by omega) w;clear i j o hlk;have HW:Hid (w.heap.size+1+1+1=(((w.alloc (.cells #[.slice (some ⟨b,off,none⟩) n cap] 59)).alloc (.cells (bc n) 4)).alloc (.cells #[.slice (some ⟨b,off,none⟩) n cap,.slice (some ⟨w.heap.size+1,0,none⟩) n n,.slice none 0 0,.int .i64 (-1)] 164)).drew.heap.size):=by show _=_;simp
 go_enter Tryz.func115,Tryz.ntmps115;go_wp2_with fail;go_region_with fail;all_goals
  clear m r;go_wp2_with fail;refine s.out.mono ?_;rintro e w2 ⟨rfl,g,k,q⟩;have c:=ae k;clear k q;go_wp2;go_ret;refine⟨w.heap.size+1+1,g,rfl,?_,c.out.c2.1,?_,c.out.c3.1,c.out.low⟩
  ·have:=c.out.hz
   omega
  ·have h:=aB c.out.ord (base':=w.heap.size) (by omega)
   simp only[List.nil_append,List.map_map,List.length_map] at h;exact h
theorem uk (b o j:Nat):(⟨b,o,none⟩:Addr).add j=⟨b,o+j,none⟩:=by unfold Addr.add;split<;>simp_all
theorem kH (a:Option Addr)(n cap:Nat)(f:Nat->ar)(w:World)(hn:(n:Int)<=1048576)(hv:SlDeed w a n f)(ex:∀ i,i<n->cK (f i))(sm:∀ i,i<n->dD (f i)):Calls Tryz.prog 40 #[.agg #[.slice a n cap]] w fun e w'=>e=.returned (.tuple #[.int .i64 (dy f n).1,.int .i64 (dy f n).2])/\Below w.heap.size w w':=by
 have HV:=ae hv;have HM:=ae ex;have HZ:=ae sm;clear hv ex sm;have Y:=ae ((q9 w).alloc ly (.cells #[.slice a n cap] 59));have k0:(w.alloc (.cells #[.slice a n cap] 59)).cell? ⟨w.heap.size,0,none⟩=some (.slice a n cap):=by simp
 obtain⟨c1,c2,K⟩:∃ c1 c2,dy f n=(c1,c2):=⟨_,_,rfl⟩
 rw[K];have U:=ae K;clear K;by_cases h0:(n:Int)<1
 ·have d:c1=1/\c2=0:=by have:=U.out;unfold dy at this;rw[if_pos (.inl (by omega))] at this;simp only[Prod.mk.injEq] at this;omega
  clear U;obtain⟨d,x⟩:=d;subst d x;go_enter Tryz.func40,Tryz.ntmps40;go_wp2;go_ret2;exact⟨rfl,Y.out⟩
 by_cases h4:(400:Int)<(n:Int)
 ·have d:c1=1/\c2=0:=by have:=U.out;unfold dy at this;rw[if_pos (.inr (by omega))] at this;simp only[Prod.mk.injEq] at this;omega
  clear U;obtain⟨d,x⟩:=d;subst d x;go_enter Tryz.func40,Tryz.ntmps40;go_wp2;go_ret2;exact⟨rfl,Y.out⟩
 have M:Hid ((if aG (aZ f) n≠-1 then ((2:Int),aG (aZ f) n) else if aG (fun p=>aS f p p) n≠-1 then (3,aG (fun p=>aS f p p) n) else if bj 0 (aE f n)≠-1 then (4,bj 0 (aE f n)) else if aW f (aE f n)≠-1 then (5,aW f (aE f n)) else (0,0))=(c1,c2)):=by have:=U.out;unfold dy at this;rw[if_neg (by omega)] at this;exact this
 clear U;obtain⟨b,off,rfl,bt⟩:=HV.out.resolve_left (by omega);have HR:=ae bt;clear HV bt;have zG:(n:Int)<=400:=by omega
 have Q:w.heap.size<(w.alloc (.cells #[.slice (some ⟨b,off,none⟩) n cap] 59)).heap.size:=by simp
 go_enter Tryz.func40,Tryz.ntmps40;go_wp2;generalize w.alloc (.cells #[.slice (some ⟨b,off,none⟩) n cap] 59)=W at Y k0 Q ⊢;go_loopw [5] (fun i wr=>∃ k:Nat,k<=n/\i=.int .i64 k/\Hid (∀ j,j<k->aZ f j=true)/\Hid (Below W.heap.size W wr)) (fun i _=>n - (intOf i).toNat);case atStart=>exact⟨0,by omega,rfl,fun j s=>absurd s (Nat.not_lt_zero _),Below.refl _ _⟩
 case round =>
  obtain⟨k,hk,rfl,q,G⟩:=hrel;have k1:=(G.out.cell (p:=⟨w.heap.size,0,none⟩) Q).trans k0;have D:=ae (Y.out.trans (G.out.mono Y.out.size));by_cases l:k<n
  ·go_wp2_with fail
   refine(oO b off n cap k f _ l (HR.out.below D.out ly) (HM.out k l).1 (HZ.out k l).2.2.1.2).mono ?_;rintro e w2 ⟨he,V⟩;have u:=ae (D.out.trans (V.mono D.out.size));have H1:=ae (G.out.trans (V.mono G.out.size));clear V;cases J:aZ f k with
   | true =>
    rw[J] at he;subst he;have HD:=ae J;clear J;go_wp2
    exact⟨⟨k+1,by omega,by go_num,fun j s=>by
     by_cases e:j=k
     ·subst e;exact HD.out
     ·exact q.out j (by omega),H1.out⟩,by simp[intOf];omega⟩
   | false =>
    rw[J] at he;subst he;have t:=eF l J q.out;have d:c1=2/\c2=(k:Int):=by have:=M.out;rw[if_pos (by rw[t];omega),t] at this;simp only[Prod.mk.injEq] at this;omega
    obtain⟨d,x⟩:=d;clear M t J;subst d x;go_wp2;go_ret2;exact⟨rfl,u.out⟩
  ·have e:n=k:=by omega
   subst e;have Z:=ez q.out;have O:Hid ((if aG (fun p=>aS f p p) n≠-1 then ((3:Int),aG (fun p=>aS f p p) n) else if bj 0 (aE f n)≠-1 then (4,bj 0 (aE f n)) else if aW f (aE f n)≠-1 then (5,aW f (aE f n)) else (0,0))=(c1,c2)):=by have:=M.out;rw[if_neg (by rw[Z];simp)] at this;exact this
   have fd:=ae Z;clear M Z q;go_wp2;clear l hk k1;generalize wr=W2 at G D ⊢;have k1:=(G.out.cell (p:=⟨w.heap.size,0,none⟩) Q).trans k0;have n9:w.heap.size<W2.heap.size:=lj Q G.out.size;go_loopw [6] (fun i wr=>∃ k:Nat,k<=n/\i=.int .i64 k/\Hid (∀ j,j<k->aS f j j=true)/\Hid (Below W2.heap.size W2 wr)) (fun i _=>n - (intOf i).toNat);case atStart=>exact⟨0,by omega,rfl,fun j s=>absurd s (Nat.not_lt_zero _),Below.refl _ _⟩
   case round =>
    obtain⟨k,hk,rfl,q,S⟩:=hrel;by_cases l:k<n
    ·go_wp2
     generalize wr=W3 at S ⊢;go_loopw [7] (fun i wr=>∃ m:Nat,m<=k/\i=.int .i64 m/\Hid (aS f k m=true)/\Hid (Below W2.heap.size W2 wr)) (fun i _=>k - (intOf i).toNat);case atStart=>exact⟨0,by omega,rfl,rfl,S.out⟩
     case round =>
      obtain⟨m,hm,rfl,HN,R⟩:=hrel;have k2:=(R.out.cell (p:=⟨w.heap.size,0,none⟩) n9).trans k1;have u:=ae (D.out.trans (R.out.mono D.out.size));by_cases ur:m<k
      ·have d0:=((HR.out.below u.out ly).2 m (by omega)).1
       have d1:=((HR.out.below u.out ly).2 k l).1;have hm0:(0:Int)<=m:=by omega
       have hmn:(m:Int)<n:=by omega
       have zF:(0:Int)<=k:=by omega
       have hkn:(k:Int)<n:=by omega
       cases hq:((f m).name.toList == (f k).name.toList) with
       | true =>
        have mv:aS f k k=false:=yJ ur (by rw[aS,hq];simp);have t:=eF (g:=fun p=>aS f p p) l mv q.out;have d:c1=3/\c2=(k:Int):=by have:=O.out;rw[if_pos (by rw[t];omega),t] at this;simp only[Prod.mk.injEq] at this;omega
        obtain⟨d,x⟩:=d;clear O t mv;subst d x;go_wp2_with fail;go_quiet (fail);have G2:=ae (below_drewN u.out nq);go_wp2;go_ret2;exact⟨rfl,G2.out⟩
       | false =>
        have zE:Hid (aS f k (m+1)=true):=by show aS f k (m+1)=true;rw[aS,HN.out,hq];rfl
        go_wp2_with fail;go_quiet (fail);have H5:=ae (below_drewN R.out nq);go_wp2;exact⟨⟨m+1,by omega,by go_num,zE.out,H5.out⟩,by simp[intOf];omega⟩
      ·have e:m=k:=by omega
       subst e;go_wp2
       exact⟨⟨m+1,by omega,by go_num,fun j s=>by
        by_cases e:j=m
        ·subst e;exact HN.out
        ·exact q.out j (by omega),R.out⟩,by simp[intOf];omega⟩
    ·have e:n=k:=by omega
     subst e;have ro:=ez (g:=fun p=>aS f p p) q.out;have C:Hid ((if bj 0 (aE f n)≠-1 then ((4:Int),bj 0 (aE f n)) else if aW f (aE f n)≠-1 then (5,aW f (aE f n)) else (0,0))=(c1,c2)):=by have:=O.out;rw[if_neg (by rw[ro];simp)] at this;exact this
     clear O ro q;have k2:=(S.out.cell (p:=⟨w.heap.size,0,none⟩) n9).trans k1;have u:=ae (D.out.trans (S.out.mono D.out.size));have n8:=ae (iD (gK fd.out) (n:=n) (by omega));have hn1:1<=n:=by omega
     go_wp2_with fail;refine(qQ b off n cap f _ (gK fd.out) hn1 zG (HR.out.below u.out ly) (li fd.out)).mono ?_;rintro e w5 ⟨H,ov,rfl,qr,zD,hO,ld,V⟩;have G5:=ae (u.out.trans (V.mono u.out.size));obtain⟨o,ho⟩:=jM (f:=f) hn1;have th:0<(aE f n).length:=by rw[ho];simp
     have P:=ae (fun h=>pk (f:=f) hn1 h);clear ho o;obtain⟨L,hL⟩:∃ L,L=aE f n:=⟨_,rfl⟩
     rw[<-hL] at hO ld th C n8 P;clear hL;obtain⟨g,oc,rfl⟩:∃ g c,ov=.slice (some ⟨g,0,none⟩) L.length c:=by
      rcases hO.2 with ⟨_,h2⟩ | ⟨g,c,cur,h1,_⟩
      ·omega
      ·exact⟨g,c,h1⟩
     have zH:Hid (∀ j (h:j<L.length),w5.cell? ⟨g,j,none⟩=some (.int .i64 ((L[j]).1:Int))/\g<w5.heap.size):=by intro j s;have h1:=hO.cells (g:=g) rfl j (.int .i64 ((L[j]).1:Int)) (by rw[List.getElem?_map,gq s];rfl);rw[uk,Nat.zero_add] at h1;exact⟨h1,(hO.lt g rfl).2⟩
     have hll:=n8.out;clear hO V k2;go_wp2;go_loopw [9] (fun i wr=>∃ k:Nat,k<=n/\i=.int .i64 k/\Hid (∀ j,j<k->∃ h:j<L.length,(L[j]).1=j)/\Hid (Below w5.heap.size w5 wr)) (fun i _=>n - (intOf i).toNat);case atStart=>exact⟨0,by omega,rfl,fun j s=>absurd s (Nat.not_lt_zero _),Below.refl _ _⟩
     case round =>
      obtain⟨k,hk,rfl,q,B⟩:=hrel;have x:=(B.out.cell (p:=⟨H,2,none⟩) qr).trans zD;have e3:=(B.out.cell (p:=⟨H,3,none⟩) qr).trans ld;have G6:=ae (G5.out.trans (B.out.mono G5.out.size));by_cases l:k<n
      ·by_cases aq:k<L.length
       ·obtain⟨q1,q2⟩:=zH.out k aq
        have d0:=(B.out.cell (p:=⟨g,k,none⟩) q2).trans q1;have hkl':(k:Int)<(L.length:Int):=by omega
        have hno:decide ((L.length:Int)<=(k:Int))=false:=by simp;omega
        have hno':decide (L.length<=k)=false:=by simp;omega
        have zF:(0:Int)<=k:=by omega
        obtain⟨z,hz⟩:∃ z,z=(L[k]).1:=⟨_,rfl⟩
        rw[<-hz] at d0;have N:=ae hz;clear q1 q2 hz;by_cases y:(z:Int)=(k:Int)
        ·have HN:Hid (∀ j,j<k+1->∃ h:j<L.length,(L[j]).1=j):=fun j s=>by
          by_cases e:j=k
          ·subst e
           exact⟨aq,by rw[<-N.out];omega⟩
          ·exact q.out j (by omega)
         obtain rfl:z=k:=by omega
         clear y N;go_wp2;exact⟨⟨z+1,by omega,by go_num,HN.out,B.out⟩,by simp[intOf];omega⟩
        ·have r:bj 0 L=(k:Int):=by
          have:=vT (L:=L) (i:=0) (j:=k) aq (fun m hm=>by obtain⟨h,e⟩:=q.out m hm;omega) (by rw[<-N.out];omega);simpa using this
         have d:c1=4/\c2=(k:Int):=by have:=C.out;rw[if_pos (by rw[r];omega),r] at this;simp only[Prod.mk.injEq] at this;omega
         have hne:((z:Int) != (k:Int))=true:=by simpa using y
         obtain⟨d,E⟩:=d;clear C r N;subst d E;go_wp2;go_ret2;exact⟨rfl,G6.out⟩
       ·have:=P.out fun j s=>by obtain⟨h,e⟩:=q.out j (by omega);exact e
        omega
      ·have e:n=k:=by omega
       subst e;have I:∀ j (h:j<L.length),(L[j]).1=0+j:=fun j s=>by obtain⟨h,e⟩:=q.out j (by omega);omega
       have r:=uj I;rw[jL I] at e3;have A:Hid ((if aW f L≠-1 then ((5:Int),aW f L) else (0,0))=(c1,c2)):=by have:=C.out;rw[if_neg (by rw[r];simp)] at this;exact this
       have T:=nJ f L;generalize aW f L=X at e3 A T;have la:=ae T;clear C r I T x;by_cases y:X=-1
       ·have d:c1=0/\c2=0:=by
         have:=A.out;rw[if_neg (by rw[y];simp)] at this;simp only[Prod.mk.injEq] at this;omega
        obtain⟨d,E⟩:=d;have J:decide (0<=X)=false:=by rw[y];rfl
        clear A y;subst d E;go_wp2;go_ret2;exact⟨rfl,G6.out⟩
       ·have d:c1=5/\c2=X:=by
         have:=A.out;rw[if_pos y] at this;simp only[Prod.mk.injEq] at this;omega
        have T:0<=X:=la.out.resolve_left y;obtain⟨d,E⟩:=d;clear A y la;subst d E;go_wp2_with fail;go_quiet (fail);have G7:=ae (below_drewN G6.out nq);go_wp2;go_ret2;exact⟨rfl,G7.out⟩
theorem lm (a:Option Addr)(n cap:Nat)(f:Nat->ar)(w:World)(hn:(n:Int)<=1048576)(l:SlDeed w a n f)(b:∀ i,i<n->cK (f i))(g:∀ i,i<n->dD (f i)):Calls Tryz.prog 112 #[.agg #[.slice a n cap]] w fun e s=>e=.returned (.bool (bK f n))/\Below w.heap.size w s:=by
 have p:=ae l;have q:=ae b;have t:=ae g;clear l b g;have h:=ae ((q9 w).alloc ly (.cells #[.slice a n cap] 59));obtain⟨r,j⟩:∃ r,r=bK f n:=⟨_,rfl⟩
 rw[<-j];have k:=ae (show r=decide ((dy f n).1=0) from j);clear j;go_enter Tryz.func112,Tryz.ntmps112;go_wp2_with fail;refine(kH a n cap f _ hn (p.out.below h.out ly) q.out t.out).mono ?_;rintro e w1 ⟨rfl,o⟩;have m:=ae (h.out.trans (o.mono h.out.size));clear o;generalize (dy f n).1=c at k ⊢;generalize (dy f n).2=d;cases r with
 | true =>obtain rfl:c=0:=of_decide_eq_true k.out.symm;go_wp2;go_ret;exact⟨rfl,m.out⟩
 | false =>
  have hc:(c == 0)=false:=by have:¬ c=0:=of_decide_eq_false k.out.symm;simpa using this
  go_wp2;go_ret;exact⟨rfl,m.out⟩
end Go.Proofs.YtkophfgkcijjkaaGreatDoor.Vp
