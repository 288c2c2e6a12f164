import Derived.Test.YtkophfgkcijjkaaGreatDoorXX
import Derived.Test.YtkophfgkcijjkaaGreatDoorYN
import Derived.Test.YtkophfgkcijjkaaGreatDoorYJ
set_option maxRecDepth 100000
set_option maxHeartbeats 16000000
namespace Go.Proofs.YtkophfgkcijjkaaGreatDoor.Vp
open RowKit Ca
structure NnS (w:World)(ab:Nat)(a:Option Addr)(n c:Nat)(f:Nat->ar)(V:World):Prop where
 bl:Below w.heap.size w V
 ac:HAc w.heap.size V a n c f
 bx:V.heap[ab]?=some (.cells #[.slice a n c] 59 (0,0))
theorem NnS.below {w V U:World}{d n c:Nat}{a:Option Addr}{f:Nat->ar}(h:NnS w d a n c f V)(b:Below V.heap.size V U):NnS w d a n c f U:=⟨h.bl.trans (b.mono h.bl.size),h.ac.agr (d9 b ly),(b.block _ (au h.bx)).trans h.bx⟩
theorem NnS.cell {w V:World}{b n c:Nat}{a:Option Addr}{f:Nat->ar}(h:NnS w b a n c f V):V.cell? ⟨b,0,none⟩=some (.slice a n c):=by have hb:=h.bx;simp[World.cell?,hb]
theorem NnS.at {w V:World}{g m c b off k:Nat}{f:Nat->ar}(h:NnS w g (some ⟨b,off,none⟩) m c f V)(i:k<m):V.cell? ⟨g,0,none⟩=some (.slice (some ⟨b,off,none⟩) m c)/\b<V.heap.size/\V.cell? ⟨b,off+k*6,none⟩=some (.string (f k).name)/\V.cell? ⟨b,off+k*6+1,none⟩=some (.int .i64 (f k).kind):=by
 rcases h.ac.here with h0 | ⟨b',off',e,d⟩
 ·omega
 ·cases e
  exact⟨h.cell,d.1,(d.2 k i).1,(d.2 k i).2.1⟩
structure NnA (w:World)(ab:Nat)(a:Option Addr)(n c:Nat)(f:Nat->ar)(na:Option Addr)(NL:List (List UInt8))(sa:Option Addr)(SL:List (List UInt8))(oa:Option Addr)(DL:List (List UInt8))(V:World):Prop where
 s:NnS w ab a n c f V
 n:SlStr V na NL.length (nmF NL)
 q:SlStr V sa SL.length (nmF SL)
 o:SlStr V oa DL.length (nmF DL)
theorem NnA.below {w V U:World}{i n c:Nat}{a:Option Addr}{f:Nat->ar}{d:Option Addr}{k:List (List UInt8)}{j:Option Addr}{g:List (List UInt8)}{l:Option Addr}{DL:List (List UInt8)}(h:NnA w i a n c f d k j g l DL V)(b:Below V.heap.size V U):NnA w i a n c f d k j g l DL U:=⟨h.s.below b,h.n.below b ly,h.q.below b ly,h.o.below b ly⟩
section
variable {P:Program}{ops:Array Oper}{Q:Exit->Act->World->Prop}{md:Region.Mode}{S:World->Prop}
theorem dH (j:Nat){i:Nat}{d:Oper}{k:Nat}{l:Array Bool}{a:Act}{w:World}(_:nxS (l.toList.drop j) j=some i)(hi:ops.toList[i]?=some d)(b:(Region.noSelect ops && Region.free md ops l i && (Region.ready md ops l).contains i)=true)
  (m:∀ c a w,Q (.panic c) (a.put d.dst undef) w->Q (.panic c) a w) (g:Region.wanted d (yielded ops a.tmps)=false) (f:S w)
  (h:wpAnyH P md ops Q S k (l.setIfInBounds i true) (a.put d.dst undef) w):wpAnyH P md ops Q S (k+1) l a w:=by
 simp only[Bool.and_eq_true] at b;rw[Array.getElem?_toList] at hi;exact wpAnyH_take hi b.1.1 b.1.2 b.2 m (.inr ⟨g,rfl⟩) f h
end
theorem vj (a:Option Addr)(n cap:Nat)(w:World)(hn:(n:Int)<=9223372036854775807)(hc:n<=cap)(U:ByteSl w a n)(hT:Tab w):Calls Tryz.prog 6 #[.slice a n cap] w fun e w'=>e=.returned (.bool true)/\Below w.heap.size w w':=by
 by_cases hbig:1048576<(n:Int)
 ·go_enter Tryz.func6,Tryz.ntmps6
  go_wp2;go_ret;exact⟨rfl,Below.refl _ _⟩
 have LY:=ae (fun V (hV:Below w.heap.size w V)=>(hT.below hV hT.1:Tab V));have DM:=ae (rD a n cap w (by omega) hc U);clear hT U hc;go_enter Tryz.func6,Tryz.ntmps6;go_wp2_with fail;refine DM.out.mono ?_;rintro e Y ⟨d,m,c,f,t,rfl,hA,n8⟩;clear DM;have hm5:=hA.hn;have hmc:=hA.cap;have Z:=ae (show ∀ i,i<m->cK (f i) from fun i hi=>(hA.fit i hi).fits);have HZ:=ae (show ∀ i,i<m->dD (f i) from fun i hi=>(hA.fit i hi).sized);have u:=(q9 Y).alloc ly (.cells #[.slice d m c] 59);have D1:Hid (NnS w Y.heap.size d m c f (Y.alloc (.cells #[.slice d m c] 59))):=⟨n8.trans (u.mono n8.size),hA.agr (d9 u ly),heap_alloc_new Y _⟩
 clear u hA n8;obtain⟨P,n9⟩:∃ P,P=gP f m:=⟨_,rfl⟩
 obtain⟨Q,fd⟩:∃ Q,Q=gO f m:=⟨_,rfl⟩
 obtain⟨DL,mv⟩:∃ DL,DL=gi f m t:=⟨_,rfl⟩
 have G:P.length<=1048576:=by rw[n9];exact vE f m
 have bt:Q.length<=1048576:=by rw[fd];exact vD f m
 have zD:DL.length<=1048576:=by rw[mv];exact vF f m t
 have EN:=ae n9;have ES:=ae fd;have ED:=ae mv;clear n9 fd mv;go_upto_region 4 with fail;generalize Y.alloc (.cells #[.slice d m c] 59)=W1 at D1 ⊢;generalize Y.heap.size=ab at D1 ⊢;have x1:=D1.out.cell;go_wp2_with fail;refine(oC d m c f _ (by omega) D1.out.ac.here (by omega) Z.out HZ.out (LY.out _ D1.out.bl)).mono ?_;rintro e w2 ⟨v,rfl,B,g⟩;rw[<-EN.out] at B;obtain⟨H,T,rfl⟩:=aL B;have N2:=ae (ni B);have D2:=ae (D1.out.below g);clear B g D1 x1;have x2:=D2.out.cell;go_wp2_with fail;refine(me d m c f _ (by omega) D2.out.ac.here (by omega) Z.out HZ.out (LY.out _ D2.out.bl)).mono ?_;rintro e w3 ⟨v,rfl,B,g⟩;rw[<-ES.out] at B;obtain⟨sa,sc,rfl⟩:=aL B;have S3:=ae (ni B);have N3:=ae (N2.out.below g ly);have D3:=ae (D2.out.below g);clear B g D2 x2 N2;have x3:=D3.out.cell;go_wp2_with fail;refine(oB d m c f _ (by omega) D3.out.ac.here Z.out HZ.out).mono ?_;rintro e w4 ⟨b4,o4,m4,c4,rfl,qr,E,g⟩;rw[<-EN.out] at qr E;subst qr;have N4:=ae (N3.out.below g ly);have S4:=ae (S3.out.below g ly);have D4:=ae (D3.out.below g);have R4:Hid (SlStr w4 (some ⟨b4,o4,none⟩) P.length (nmF P)):=.inr ⟨b4,o4,rfl,E⟩;clear E g D3 x3 N3 S3;go_wp2_with fail;refine(jC H (some ⟨b4,o4,none⟩) P.length T c4 (nmF P) w4 G N4.out R4.out).mono ?_;rintro e w5 ⟨rfl,g⟩;have N5:=ae (N4.out.below g ly);have S5:=ae (S4.out.below g ly);have D5:=ae (D4.out.below g);clear g D4 N4 S4 R4;have x5:=D5.out.cell;go_wp2_with fail;refine(lV d m c f _ (by omega) D5.out.ac.here Z.out HZ.out).mono ?_;rintro e w6 ⟨b6,o6,m6,c6,rfl,th,E,g⟩;rw[<-ES.out] at th E;subst th;have N6:=ae (N5.out.below g ly);have S6:=ae (S5.out.below g ly);have D6:=ae (D5.out.below g);have R6:Hid (SlStr w6 (some ⟨b6,o6,none⟩) Q.length (nmF Q)):=.inr ⟨b6,o6,rfl,E⟩;clear E g D5 x5 N5 S5;go_wp2_with fail;refine(jC sa (some ⟨b6,o6,none⟩) Q.length sc c6 (nmF Q) w6 bt S6.out R6.out).mono ?_;rintro e w7 ⟨rfl,g⟩;have N7:=ae (N6.out.below g ly);have S7:=ae (S6.out.below g ly);have D7:=ae (D6.out.below g);clear g D6 N6 S6 R6;have x7:=D7.out.cell;go_wp2_with fail;refine(kH d m c f _ (by omega) D7.out.ac.here Z.out HZ.out).mono ?_;rintro e w8 ⟨rfl,g⟩;have N8:=ae (N7.out.below g ly);have S8:=ae (S7.out.below g ly);have D8:=ae (D7.out.below g);clear g D7 N7 S7 x7;have x8:=D8.out.cell;go_wp2_with fail;refine(mc d m c f t _ (by omega) D8.out.ac.here (by omega) Z.out HZ.out (LY.out _ D8.out.bl)).mono ?_;rintro e w9 ⟨v,rfl,B,g⟩;rw[<-ED.out] at B;obtain⟨oa,oc,rfl⟩:=aL B;have O9:=ae (ni B);have N9:=ae (N8.out.below g ly);have S9:=ae (S8.out.below g ly);have D9:=ae (D8.out.below g);clear B g D8 x8 N8 S8;have x9:=D9.out.cell;by_cases la:(dy f m).1=0
 ·have aq:Hid (bK f m=true):=by unfold bK;exact decide_eq_true la
  obtain rfl:P=aV f m:=by rw[EN.out,gP,if_pos aq.out]
  obtain rfl:Q=cf f m:=by rw[ES.out,gO,if_pos aq.out]
  obtain rfl:DL=aQ f t m:=by rw[ED.out,gi,if_pos aq.out]
  clear EN ES ED;have A0:Hid (NnA w ab d m c f H (aV f m) sa (cf f m) oa (aQ f t m) w9):=⟨D9.out,N9.out,S9.out,O9.out⟩
  clear D9 N9 S9 O9 x9;go_wp2_with fail;go_loopw [10,11] (fun ur i wr=>∃ (bd:Bool) (k:Nat),ur=.bool bd/\i=.int .i64 k/\k<=m/\Hid (bd=true ↔ ∃ i,i<k/\(f i).name.toList=t.toList)/\Hid (NnA w ab d m c f H (aV f m) sa (cf f m) oa (aQ f t m) wr)) (fun _ i _=>m - (intOf i).toNat);case atStart=>exact⟨false,0,rfl,rfl,by omega,⟨(fun h=>by cases h),fun⟨i,hi,_⟩=>absurd hi (by omega)⟩,A0.out⟩
  case round =>
   clear A0;obtain⟨bd,k,rfl,rfl,hk,BD,u⟩:=hrel;by_cases D:k<m
   ·have r:(k:Int)<m:=by omega
    obtain⟨b,off,hd⟩:∃ b off,d=some ⟨b,off,none⟩:=by
     rcases u.out.s.ac.here with h0 | ⟨b',O,e,-⟩
     ·omega
     ·exact⟨b',O,e⟩
    subst hd;obtain⟨e0,e1,e2,e3⟩:=u.out.s.at D;have BE:Hid ((bd || ((f k).name.toList == t.toList))=true ↔ ∃ i,i<k+1/\(f i).name.toList=t.toList):=by
     have h:=BD.out;simp only[Bool.or_eq_true,beq_iff_eq,h];constructor
     ·rintro(⟨i,W,h2⟩ | W)
      ·exact⟨i,by omega,h2⟩
      ·exact⟨k,by omega,W⟩
     ·rintro⟨i,W,h2⟩
      rcases Nat.lt_succ_iff_lt_or_eq.1 W with h3 | rfl
      ·exact .inl ⟨i,h3,h2⟩
      ·exact .inr h2
    clear BD;cases bd with
    | true =>
     by_cases J:(f k).kind=1
     ·have ex:((f k).kind == 1)=true:=by simp[J]
      go_wp2_with fail;refine(eS sa (cf f m).length sc (nmF (cf f m)) _ _ bt u.out.q).mono ?_;rintro e v5 ⟨x,rfl,hb,g⟩;obtain rfl:x=true:=hb.2 (eU.2 ((oZ f m _).2 ⟨k,D,J,rfl⟩));have I:=ae (u.out.below g);clear hb g u e0 e1 e2 e3;obtain⟨e0,e1,e2,e3⟩:=I.out.s.at D;go_wp2_with fail;refine(eS H (aV f m).length T (nmF (aV f m)) _ _ G I.out.n).mono ?_;rintro e N ⟨x,rfl,hb,g⟩;obtain rfl:x=true:=hb.2 (eU.2 ((fl f m _).2 ⟨k,D,.inl rfl⟩));have z:=ae (I.out.below g);clear hb g I;go_wp2;exact⟨⟨_,k+1,rfl,by go_num,by omega,BE.out,z.out⟩,by simp[intOf];omega⟩
     ·have ex:((f k).kind == 1)=false:=by simpa using J
      go_wp2_with fail;refine(eS H (aV f m).length T (nmF (aV f m)) _ _ G u.out.n).mono ?_;rintro e N ⟨x,rfl,hb,g⟩;obtain rfl:x=true:=hb.2 (eU.2 ((fl f m _).2 ⟨k,D,.inl rfl⟩));have z:=ae (u.out.below g);clear hb g u;go_wp2;exact⟨⟨_,k+1,rfl,by go_num,by omega,BE.out,z.out⟩,by simp[intOf];omega⟩
    | false =>
     by_cases J:(f k).kind=1
     ·have ex:((f k).kind == 1)=true:=by simp[J]
      go_wp2_with fail;refine(eS sa (cf f m).length sc (nmF (cf f m)) _ _ bt u.out.q).mono ?_;rintro e v5 ⟨x,rfl,hb,g⟩;obtain rfl:x=true:=hb.2 (eU.2 ((oZ f m _).2 ⟨k,D,J,rfl⟩));have I:=ae (u.out.below g);clear hb g u e0 e1 e2 e3;obtain⟨e0,e1,e2,e3⟩:=I.out.s.at D;go_wp2_with fail;refine(eS H (aV f m).length T (nmF (aV f m)) _ _ G I.out.n).mono ?_;rintro e N ⟨x,rfl,hb,g⟩;obtain rfl:x=true:=hb.2 (eU.2 ((fl f m _).2 ⟨k,D,.inl rfl⟩));have z:=ae (I.out.below g);clear hb g I;go_wp2;exact⟨⟨_,k+1,rfl,by go_num,by omega,BE.out,z.out⟩,by simp[intOf];omega⟩
     ·have ex:((f k).kind == 1)=false:=by simpa using J
      go_wp2_with fail;refine(eS H (aV f m).length T (nmF (aV f m)) _ _ G u.out.n).mono ?_;rintro e N ⟨x,rfl,hb,g⟩;obtain rfl:x=true:=hb.2 (eU.2 ((fl f m _).2 ⟨k,D,.inl rfl⟩));have z:=ae (u.out.below g);clear hb g u;go_wp2;exact⟨⟨_,k+1,rfl,by go_num,by omega,BE.out,z.out⟩,by simp[intOf];omega⟩
   ·obtain rfl:k=m:=by omega
    have x1:=u.out.s.cell;go_wp2_with fail;clear x1;go_loopw [12] (fun i wr=>∃ X:Nat,i=.int .i64 X/\X<=(aQ f t k).length/\Hid (NnA w ab d k c f H (aV f k) sa (cf f k) oa (aQ f t k) wr)) (fun i _=>(aQ f t k).length - (intOf i).toNat);case atStart=>exact⟨0,rfl,by omega,u.out⟩
    case round =>
     clear u;obtain⟨X,rfl,hk2,R⟩:=hrel;by_cases r:X<(aQ f t k).length
     ·have hlt3:(X:Int)<(aQ f t k).length:=by omega
      obtain⟨C,M,B⟩:∃ C M,oa=some ⟨C,M,none⟩:=by
       rcases R.out.o with h0 | ⟨b',O,e,-⟩
       ·omega
       ·exact⟨b',O,e⟩
      subst B;have L:Hid (∀ V,NnA w ab d k c f H (aV f k) sa (cf f k) (some ⟨C,M,none⟩) (aQ f t k) V->C<V.heap.size/\∀ i,i<(aQ f t k).length->V.cell? ⟨C,M+i,none⟩=some (.string (nmF (aQ f t k) i))):=fun V h=>by
       rcases h.o with h0 | ⟨b',O,e,E⟩
       ·omega
       ·cases e
        exact E
      rcases(show X=0∨∃ j,X=j+1 by rcases X with _ | j<;>simp) with rfl | ⟨j,rfl⟩
      ·go_wp2_with fail
       have y:=ae (R.out.below br.drew);refine wp_region_held_drew (S:=fun V=>C<V.heap.size/\V.cell? ⟨C,M,none⟩=some (.string (nmF (aQ f t k) 0))) (by as_aux_lemma=>kernel_rfl) ⟨(L.out _ y.out).1,(L.out _ y.out).2 0 r⟩ (fun U=>?_);have p:=ae U;clear U R;generalize wr.drew=v3 at y p ⊢
       iterate 5
        refine aF 0 (v:=?_) rfl rfl (by as_aux_lemma=>kernel_rfl) (fun _ _ _ h=>h) rfl ?_ p.out ?_;rotate_left
        ·(intro A l;obtain⟨s0,s1⟩:=l;go_simp)
         (try with_reducible rfl)
        (try simp only[Act.put,nzL])
       refine aK (i:=5) rfl (by as_aux_lemma=>kernel_rfl) (fun K hK=>?_);go_simp;go_at_call 42;refine(eS H (aV f k).length T (nmF (aV f k)) _ _ G y.out.n).mono ?_;rintro e N ⟨x,rfl,hb,g⟩;obtain rfl:x=true:=hb.2 (eU.2 (by rw[eY r];exact nG (gz r)));have z:=ae (y.out.below g);clear hb g y p;have p:Hid (C<N.heap.size/\N.cell? ⟨C,M,none⟩=some (.string (nmF (aQ f t k) 0))):=⟨(L.out _ z.out).1,(L.out _ z.out).2 0 r⟩
       refine hK.out _ _ p.out ?_;clear hK K
       (try simp only[Act.put,nzL])
       iterate 2
        refine aF 6 (v:=?_) rfl rfl (by as_aux_lemma=>kernel_rfl) (fun _ _ _ h=>h) rfl ?_ p.out ?_;rotate_left
        ·(intro A l;obtain⟨s0,s1⟩:=l;go_simp)
         (try with_reducible rfl)
        (try simp only[Act.put,nzL])
       refine aF 8 (v:=?_) rfl rfl (by as_aux_lemma=>kernel_rfl) (fun _ _ _ h=>h) rfl ?_ p.out ?_;rotate_left
       ·(intro A l;obtain⟨s0,s1⟩:=l;go_simp)
        (try with_reducible rfl)
       (try simp only[Act.put,nzL])
       refine aF 9 (v:=.bool false) rfl rfl (by as_aux_lemma=>kernel_rfl) (fun _ _ _ h=>h) rfl ?_ p.out ?_
       ·intro A l
        go_simp
       (try simp only[Act.put,nzL])
       refine aF 10 (v:=?_) rfl rfl (by as_aux_lemma=>kernel_rfl) (fun _ _ _ h=>h) rfl ?_ p.out ?_;rotate_left
       ·(intro A l;obtain⟨s0,s1⟩:=l;go_simp)
        (try with_reducible rfl)
       (try simp only[Act.put,nzL])
       refine dH 11 rfl rfl (by as_aux_lemma=>kernel_rfl) (fun _ _ _ h=>h) rfl p.out ?_
       (try simp only[Act.put,nzL])
       refine dH 12 rfl rfl (by as_aux_lemma=>kernel_rfl) (fun _ _ _ h=>h) rfl p.out ?_
       (try simp only[Act.put,nzL])
       refine dH 13 rfl rfl (by as_aux_lemma=>kernel_rfl) (fun _ _ _ h=>h) rfl p.out ?_
       (try simp only[Act.put,nzL])
       refine dH 14 rfl rfl (by as_aux_lemma=>kernel_rfl) (fun _ _ _ h=>h) rfl p.out ?_
       (try simp only[Act.put,nzL])
       refine dH 15 rfl rfl (by as_aux_lemma=>kernel_rfl) (fun _ _ _ h=>h) rfl p.out ?_
       (try simp only[Act.put,nzL])
       refine dH 16 rfl rfl (by as_aux_lemma=>kernel_rfl) (fun _ _ _ h=>h) rfl p.out ?_
       (try simp only[Act.put,nzL])
       refine dH 17 rfl rfl (by as_aux_lemma=>kernel_rfl) (fun _ _ _ h=>h) rfl p.out ?_
       (try simp only[Act.put,nzL])
       refine dH 18 rfl rfl (by as_aux_lemma=>kernel_rfl) (fun _ _ _ h=>h) rfl p.out ?_
       (try simp only[Act.put,nzL])
       refine dH 19 rfl rfl (by as_aux_lemma=>kernel_rfl) (fun _ _ _ h=>h) rfl p.out ?_
       (try simp only[Act.put,nzL])
       refine dH 20 rfl rfl (by as_aux_lemma=>kernel_rfl) (fun _ _ _ h=>h) rfl p.out ?_
       (try simp only[Act.put,nzL])
       refine aF 21 (v:=.bool false) rfl rfl (by as_aux_lemma=>kernel_rfl) (fun _ _ _ h=>h) rfl ?_ p.out ?_
       ·intro A l
        go_simp
       (try simp only[Act.put,nzL])
       refine aF 22 (v:=.bool false) rfl rfl (by as_aux_lemma=>kernel_rfl) (fun _ _ _ h=>h) rfl ?_ p.out ?_
       ·intro A l
        go_simp
       (try simp only[Act.put,nzL])
       refine wpAnyH_done (by as_aux_lemma=>kernel_rfl) ?_ _;go_wp2;exact⟨⟨1,by go_num,by omega,z.out⟩,by simp[intOf];omega⟩
      ·have hwj:IntKind.i64.wrap (((j+1:Nat):Int) - 1)=(j:Int):=by rw[IntKind.wrap_i64];omega
       have hj1:(j:Int)<(aQ f t k).length:=by omega
       have hj0:(0:Int)<=(j:Int)+1:=by omega
       have hwj3:IntKind.i64.wrap (j:Int)=(j:Int):=by rw[IntKind.wrap_i64];omega
       have hj2:(0:Int)<(j:Int)+1:=by omega
       go_wp2_with fail;have y:=ae (R.out.below br.drew);refine wp_region_held_drew (S:=fun V=>C<V.heap.size/\V.cell? ⟨C,M+(j+1),none⟩=some (.string (nmF (aQ f t k) (j+1)))/\V.cell? ⟨C,M+j,none⟩=some (.string (nmF (aQ f t k) j))) (by as_aux_lemma=>kernel_rfl) ⟨(L.out _ y.out).1,(L.out _ y.out).2 _ r,(L.out _ y.out).2 j (by omega)⟩ (fun U=>?_);have p:=ae U;clear U R;generalize wr.drew=v3 at y p ⊢
       iterate 5
        refine aF 0 (v:=?_) rfl rfl (by as_aux_lemma=>kernel_rfl) (fun _ _ _ h=>h) rfl ?_ p.out ?_;rotate_left
        ·(intro A l;obtain⟨s0,s1,s2⟩:=l;go_simp)
         (try with_reducible rfl)
        (try simp only[Act.put,nzL])
       refine aK (i:=5) rfl (by as_aux_lemma=>kernel_rfl) (fun K hK=>?_);go_simp;go_at_call 42;refine(eS H (aV f k).length T (nmF (aV f k)) _ _ G y.out.n).mono ?_;rintro e N ⟨x,rfl,hb,g⟩;obtain rfl:x=true:=hb.2 (eU.2 (by rw[eY r];exact nG (gz r)));have z:=ae (y.out.below g);clear hb g y p;have p:Hid (C<N.heap.size/\N.cell? ⟨C,M+(j+1),none⟩=some (.string (nmF (aQ f t k) (j+1)))/\N.cell? ⟨C,M+j,none⟩=some (.string (nmF (aQ f t k) j))):=⟨(L.out _ z.out).1,(L.out _ z.out).2 _ r,(L.out _ z.out).2 j (by omega)⟩
       refine hK.out _ _ p.out ?_;clear hK K
       (try simp only[Act.put,nzL])
       iterate 3
        refine aF 6 (v:=?_) rfl rfl (by as_aux_lemma=>kernel_rfl) (fun _ _ _ h=>h) rfl ?_ p.out ?_;rotate_left
        ·(intro A l;obtain⟨s0,s1,s2⟩:=l;go_simp)
         (try with_reducible rfl)
        (try simp only[Act.put,nzL])
       refine aF 9 (v:=.bool true) rfl rfl (by as_aux_lemma=>kernel_rfl) (fun _ _ _ h=>h) rfl ?_ p.out ?_
       ·intro A l
        go_simp
       (try simp only[Act.put,nzL])
       refine aF 10 (v:=?_) rfl rfl (by as_aux_lemma=>kernel_rfl) (fun _ _ _ h=>h) rfl ?_ p.out ?_;rotate_left
       ·(intro A l;obtain⟨s0,s1,s2⟩:=l;go_simp)
        (try with_reducible rfl)
       (try simp only[Act.put,nzL])
       iterate 2
        refine aF 11 (v:=?_) rfl rfl (by as_aux_lemma=>kernel_rfl) (fun _ _ _ h=>h) rfl ?_ p.out ?_;rotate_left
        ·(intro A l;obtain⟨s0,s1,s2⟩:=l;go_simp)
         (try with_reducible rfl)
        (try simp only[Act.put,nzL])
       refine aF 13 (v:=.int .i64 j) rfl rfl (by as_aux_lemma=>kernel_rfl) (fun _ _ _ h=>h) rfl ?_ p.out ?_
       ·intro A l
        go_simp
       (try simp only[Act.put,nzL])
       iterate 6
        refine aF 14 (v:=?_) rfl rfl (by as_aux_lemma=>kernel_rfl) (fun _ _ _ h=>h) rfl ?_ p.out ?_;rotate_left
        ·(intro A l;obtain⟨s0,s1,s2⟩:=l;go_simp)
         (try with_reducible rfl)
        (try simp only[Act.put,nzL])
       refine aF 20 (v:=.bool false) rfl rfl (by as_aux_lemma=>kernel_rfl) (fun _ _ _ h=>h) rfl ?_ p.out ?_
       ·intro A l
        go_simp;rw[bytesLess_eq,eY (by omega),eY r];exact decide_eq_true (List.pairwise_iff_getElem.1 (oY f t k) j (j+1) (by omega) r (Nat.lt_succ_self j))
       (try simp only[Act.put,nzL])
       refine aF 21 (v:=.bool false) rfl rfl (by as_aux_lemma=>kernel_rfl) (fun _ _ _ h=>h) rfl ?_ p.out ?_
       ·intro A l
        go_simp
       (try simp only[Act.put,nzL])
       refine aF 22 (v:=.bool false) rfl rfl (by as_aux_lemma=>kernel_rfl) (fun _ _ _ h=>h) rfl ?_ p.out ?_
       ·intro A l
        go_simp
       (try simp only[Act.put,nzL])
       refine wpAnyH_done (by as_aux_lemma=>kernel_rfl) ?_ _;go_wp2;exact⟨⟨j+1+1,by go_num,by omega,z.out⟩,by simp[intOf];omega⟩
     ·have x1:=R.out.s.cell
      go_wp2_with fail;refine(lU d k c f t _ (by omega) R.out.s.ac.here Z.out HZ.out).mono ?_;rintro e ro ⟨b7,o7,m7,c7,rfl,sm,E,g⟩;rw[gi,if_pos aq.out] at sm E;subst sm;have y:=ae (R.out.below g);have R7:Hid (SlStr ro (some ⟨b7,o7,none⟩) (aQ f t k).length (nmF (aQ f t k))):=.inr ⟨b7,o7,rfl,E⟩;clear E g R x1;go_wp2_with fail;refine(jC oa (some ⟨b7,o7,none⟩) (aQ f t k).length oc c7 (nmF (aQ f t k)) ro zD y.out.o R7.out).mono ?_;rintro e w11 ⟨rfl,g⟩;have A4:=ae (y.out.below g);clear g y R7;go_wp2_with fail;refine(eS H (aV f k).length T (nmF (aV f k)) _ _ G A4.out.n).mono ?_;rintro e w12 ⟨x,rfl,hb,g⟩;have I:=ae (A4.out.below g);have EB:Hid (x=(bd || decide (0<((aQ f t k).length:Int)))):=by
       have W:=hb.trans eU;rw[vI] at W;have h2:=BD.out;have h3:aQ f t k≠[] ↔ 0<((aQ f t k).length:Int):=by rw[<-List.length_pos_iff];omega
       rw[h3,<-h2] at W;exact Bool.eq_iff_iff.2 (by rw[W,Bool.or_eq_true,decide_eq_true_iff])
      clear hb g A4;cases bd with
      | true =>obtain rfl:x=true:=EB.out;go_wp2;go_ret;exact⟨rfl,I.out.s.bl⟩
      | false =>obtain rfl:x=decide (0<((aQ f t k).length:Int)):=EB.out;go_wp2;go_ret;exact⟨rfl,I.out.s.bl⟩
 ·have ld:Hid (bK f m=false):=by unfold bK;exact decide_eq_false la
  obtain rfl:P=[]:=by rw[EN.out,gP,ld.out];rfl
  obtain rfl:Q=[]:=by rw[ES.out,gO,ld.out];rfl
  obtain rfl:DL=[]:=by rw[ED.out,gi,ld.out];rfl
  have hcb:((dy f m).1 == 0)=false:=by simpa using la
  go_wp2;go_ret;exact⟨rfl,D9.out.bl⟩
end Go.Proofs.YtkophfgkcijjkaaGreatDoor.Vp
