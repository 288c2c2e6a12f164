import Derived.Test.YtkophfgkcijjkaaGreatDoorXL
import Derived.Deep.CutBlock
set_option maxRecDepth 100000
set_option maxHeartbeats 40000000
namespace Go.Proofs.YtkophfgkcijjkaaGreatDoor.Vp
open RowKit Ca
theorem qt {w:World}{b:Nat}{s0 s1 d c:ByteArray}{t:TypeId}{fz:Nat × Nat}(h:w.heap[b]?=some (.cells #[.string s0,.string s1,.string d,.string c] t fz))(g:s0.size<=5000)(i:s1.size<=5000)(m:d.size<=5000)(f:c.size<=5000)(k:Nat)(l:k<4):∃ s:ByteArray,s.size<=5000/\w.cell? ⟨b,k,none⟩=some (.string s):=by
 match k,l with
 | 0,_=>exact⟨s0,g,by simp[World.cell?,h]⟩
 | 1,_=>exact⟨s1,i,by simp[World.cell?,h]⟩
 | 2,_=>exact⟨d,m,by simp[World.cell?,h]⟩
 | 3,_=>exact⟨c,f,by simp[World.cell?,h]⟩
 | j+4,h5=>exact absurd h5 (by omega)
theorem ve {W:World}{f R p c d:Nat}{r:DR}(h:DSub W f r)(n:r.2.1=.slice (some ⟨c,0,none⟩) r.1.actN d)(hR:Rd W R p)(g:p<=20000)(q:FitD r.1)(hn:r.1.actN<=200):Calls Tryz.prog 131 #[.pointer (some ⟨R,0,none⟩),.agg #[.slice (some ⟨c,0,none⟩) r.1.actN d]] W fun e m=>DP W R (p+1000) 0 201 e m:=by
 by_cases i:r.1.actN=0
 ·rw[i]
  exact rp R p c d W hR g
 ·obtain⟨a,cap,e,j⟩:=h.ins
  rw[n] at e;obtain⟨rfl,-,-⟩:=Value.slice.inj e;rcases j with o | ⟨b,off,l,k⟩
  ·exact absurd o i
  ·cases l
   exact rm R p c d r.1.actN r.1.act W hR g k ⟨by omega,hn⟩ q.asz
theorem tN (Ab:xB)(R p:Nat)(a:Option Addr)(n cap:Nat)(f:Nat->ar)(w:World)(hf:SlDeed w a n f)(Aw:∀ i,i<n->nd (f i))(hn:n<=900)(hR:Rd w R p)(hp:p<=19000):Calls Tryz.prog 170 #[.pointer (some ⟨R,0,none⟩),.agg #[.slice a n cap]] w fun e w'=>DA w R (p+1100) e w':=by
 have Bq:=ae Ab;clear Ab;have HF:=ae hf;have Av:=ae Aw;have HR:=ae hR;have As:=hR.lt;clear hf Aw hR;have A0:=ae (((q9 w).alloc ly (.cells #[.slice a n cap] 59)).alloc (by simp) (.cells #[.slice none 0 0] 59));have Ai:Hid (((w.alloc (.cells #[.slice a n cap] 59)).alloc (.cells #[.slice none 0 0] 59)).heap[w.heap.size+1]?=some (.cells #[.slice none 0 0] 59 (0,0))):=by have h:=heap_alloc_new (w.alloc (.cells #[.slice a n cap] 59)) (.cells #[.slice none 0 0] 59);rw[show(w.alloc (.cells #[.slice a n cap] 59)).heap.size=w.heap.size+1 by simp] at h;exact h
 have bt:((w.alloc (.cells #[.slice a n cap] 59)).alloc (.cells #[.slice none 0 0] 59)).heap.size=w.heap.size+2:=by simp
 go_enter Tryz.func170,Tryz.ntmps170;go_wp2_with fail;generalize (w.alloc (.cells #[.slice a n cap] 59)).alloc (.cells #[.slice none 0 0] 59)=W0 at A0 Ai bt ⊢;refine(ue a n cap f _ (by omega) (HF.out.below A0.out ly) (fun i hi=>(Av.out i hi).1.fits)).mono ?_;rintro e w1 ⟨a1,c1,D,rfl,hD,zQ,Ak,zJ⟩;have n8:=ae Ak;have Bc:=ae hD.up;clear Ak;have hl:D.length=n:=by have:=congrArg List.length zQ;simpa using this
 have zK:Hid (∀ r∈D,nd r.1):=fun r hr=>by have hm:r.1∈D.map (·.1):=List.mem_map.2 ⟨r,hr,rfl⟩;rw[zQ] at hm;obtain⟨i,hi,e⟩:=List.mem_map.1 hm;rw[<-e];exact Av.out i (List.mem_range.1 hi)
 have AX:=zJ.size;have B2:=(q9 w1).alloc ly (.cells #[.slice a1 D.length c1] 59);have S1:Hid (SpS w R w1.heap.size (w1.alloc (.cells #[.slice a1 D.length c1] 59)) p a1 c1 D):=by have O1:Only R w w1:=(Only.of_below A0.out).trans (Only.of_below (zJ.mono (by omega)));exact⟨((HR.out.below A0.out ly).below zJ (by omega)).below B2 ly,O1.trans (Only.of_below B2),(B2.block _ (by omega)).trans ((zJ.block _ (by omega)).trans Ai.out),heap_alloc_new w1 _,((hD.rw.below B2 ly).mono (by omega)),fun r hr=>(zK.out r hr).1,As,by omega,by omega⟩
 have hX:w.heap.size+2<=w1.heap.size:=by omega
 have hD9:D.length<=900:=by omega
 clear hD zJ B2 AX bt A0 Ai HF Av HR zQ hl;go_upto_region 2 with fail;generalize w1.alloc (.cells #[.slice a1 D.length c1] 59)=W1 at S1 ⊢;generalize w1.heap.size=X at S1 hX ⊢;have bx:=S1.out.box.1;by_cases hz:D.length=0
 ·obtain rfl:D=[]:=List.length_eq_zero_iff.1 hz
  rw[List.length_nil] at bx;clear hz;go_wp2_with fail;refine(aA R _ 2 _ S1.out.rd (by omega) (by omega) (by omega)).mono ?_;rintro e w2 ⟨x,rfl,x0,x1,zI,zL⟩;have E:=ae (S1.out.only zL zI);clear zL zI S1 bx;go_wp2_with fail;refine(aA R _ 3 _ E.out.rd (by omega) (by omega) (by omega)).mono ?_;rintro e L ⟨y,rfl,y0,y1,zG,zD⟩;have l:=ae (E.out.only zD zG);clear zD zG E;obtain⟨m,hm⟩:∃ m:Nat,400*x+y=(m:Int):=⟨(400*x+y).toNat,by omega⟩
  have Cq:IntKind.i64.wrap (400*x)=400*x:=by rw[IntKind.wrap_i64];omega
  have Bu:m<=1000:=by omega
  have hw2:IntKind.i64.wrap (m:Int)=(m:Int):=by rw[IntKind.wrap_i64];omega
  have hmk:=fun w=>yB m (by omega) w;have rs:=l.out.rs;have r0:L.cell? ⟨w.heap.size+1,0,none⟩=some (.slice none 0 0):=by simp[World.cell?,rs]
  have f0:L.frozen? ⟨w.heap.size+1,0,none⟩=false:=by simp[World.frozen?,rs]
  have l0:=au rs;have FN:=ae (uU (m:=m) (Q:=p+1100) l.out Bu (by omega));clear rs;go_wp2;exact bp (v:=.agg #[.slice (some ⟨L.heap.size,0,none⟩) m m]) (by simp[results,Tryz.results170,go_sem,r0,l0]) rfl FN.out
 obtain⟨g,BH,e⟩:=dm S1.out.row.own (by omega);obtain⟨rfl,-,-⟩:=Value.slice.inj e;clear e BH;have nz:¬ ((D.length:Int)=0):=by omega
 go_wp2_with fail;refine(aA R _ (D.length:Int) _ S1.out.rd (by omega) (by omega) (by omega)).mono ?_;rintro e w2 ⟨z,rfl,bt,n9,zI,zL⟩;obtain⟨k,rfl⟩:=Int.eq_ofNat_of_zero_le bt;have hk:k<D.length:=by omega
 have S0:=ae (S1.out.only zL zI);clear zL zI S1 bt n9 bx;obtain⟨r,hr,hm⟩:=dI hk;have J:=ae hr;have HM:=ae hm;clear hr hm;go_wp2_with fail;refine(aA R _ 13 _ S0.out.rd (by omega) (by omega) (by omega)).mono ?_;rintro e L ⟨s,rfl,hs0,AX,zG,zD⟩;have E:=ae (S0.out.only zD zG);clear zD zG S0;obtain⟨U,htx,Bw,Cv⟩:=zK.out r HM.out;go_upto_block 0 with fail;go_cut [8,9,10,11,12] (fun _ _ _ _ _ wx=>∃ (a':Option Addr) (c' q':Nat) (D':List DR),q'<=p+1100/\Hid (SpS w R X wx q' a' c' D'));case first =>
  rcases(show s=0∨s=1∨s=2∨s=3∨s=4∨s=5∨(s=6∨s=7∨s=8)∨s=9∨s=10∨s=11∨s=12 by omega) with rfl | rfl | rfl | rfl | rfl | rfl | h6 | rfl | rfl | rfl | rfl
  ·as_aux_lemma =>
    obtain⟨r0,AM,Ad⟩:=dI (R:=D) (i:=0) (by omega);have H0:=ae AM;have Az:r0.1.name.size<=5000:=(zK.out r0 Ad).1.nm;clear AM Ad;go_wp2_with fail;refine aJ (fun V=>V.cell? ⟨X,0,none⟩=some (.slice (some ⟨g,0,none⟩) D.length c1)/\V.cell? ⟨g,0,none⟩=some (.string r0.1.name)) 16 (by as_aux_lemma=>kernel_rfl) ?_;have l:=ae (E.out.below br.drew);clear E;generalize L.drew=C at l ⊢;have hD0:0<D.length:=by omega
    have A:Hid (C.cell? ⟨X,0,none⟩=some (.slice (some ⟨g,0,none⟩) D.length c1)/\C.cell? ⟨g,0,none⟩=some (.string r0.1.name)):=⟨l.out.box.1,by have h:=(l.out.at_ (k:=0) (j:=0) H0.out (by omega) rfl).1;simpa using h⟩
    iterate 8
     refine aM 0 (v:=?_) rfl rfl (by as_aux_lemma=>kernel_rfl) (fun _ _ _ h=>h) rfl ?_ A.out ?_;rotate_left
     ·(intro wz aq;obtain⟨s0,s1⟩:=aq;go_simp)
      (try with_reducible rfl)
     (try simp only[Act.put,nzL])
    refine aM 10 (v:=?_) rfl rfl (by as_aux_lemma=>kernel_rfl) (fun _ _ _ h=>h) rfl ?_ A.out ?_;rotate_left
    ·(intro wz aq;obtain⟨s0,s1⟩:=aq;go_simp)
     (try with_reducible rfl)
    (try simp only[Act.put,nzL])
    refine aj (i:=8) rfl (by as_aux_lemma=>kernel_rfl) (fun K d=>?_);go_simp;go_at_call 54;obtain⟨m1,zY⟩:∃ m1:Nat,(61:Int)=(m1:Int):=⟨61,rfl⟩
    rw[zY];refine(fx ⟨#[110]⟩ m1 _ (by show 1*m1<=4000;omega) (by omega)).mono ?_;rintro e v6 ⟨t,rfl,ht,hw⟩;rw[hw];have zU:t.size<=5000:=Nat.le_trans ht (by show 1*m1<=5000;omega);clear ht hw;refine d.out _ _ (fun _=>A.out) ?_;clear d K
    (try simp only[Act.put,nzL])
    refine oJ (i:=9) (j:=11) rfl rfl (by as_aux_lemma=>kernel_rfl) (fun K d=>?_) (fun K d=>?_)
    ·skip
     go_simp;have A4:=(q9 C).alloc ly (.cells #[.string ⟨#[]⟩,.string ⟨#[120,32,121]⟩,.string r0.1.name,.string t] 9);have HL:Hid ((C.alloc (.cells #[.string ⟨#[]⟩,.string ⟨#[120,32,121]⟩,.string r0.1.name,.string t] 9)).heap[C.heap.size]?=some (.cells #[.string ⟨#[]⟩,.string ⟨#[120,32,121]⟩,.string r0.1.name,.string t] 9 (0,0))):=heap_alloc_new C _;have B:=ae (l.out.below A4);have Ah:=l.out.lt;have Al:=l.out.hX;have zR:C.heap.size≠R:=by omega
     clear A4 A Ah Al;generalize C.alloc (.cells #[.string ⟨#[]⟩,.string ⟨#[120,32,121]⟩,.string r0.1.name,.string t] 9)=O at B HL ⊢;generalize C.heap.size=Ay at HL zR ⊢;have A:Hid (O.cell? ⟨X,0,none⟩=some (.slice (some ⟨g,0,none⟩) D.length c1)/\O.cell? ⟨g,0,none⟩=some (.string r0.1.name)):=⟨B.out.box.1,by have h:=(B.out.at_ (k:=0) (j:=0) H0.out (by omega) rfl).1;simpa using h⟩
     refine d.out _ _ (fun _=>A.out) ?_;clear d K
     (try simp only[Act.put,nzL])
     refine aj (i:=11) rfl (by as_aux_lemma=>kernel_rfl) (fun K d=>?_);go_simp;go_at_call 51;refine(aA R _ 4 _ B.out.rd (by omega) (by omega) (by omega)).mono ?_;rintro e v5 ⟨z4,rfl,zO,Bm,H,G⟩;obtain⟨m,rfl⟩:=Int.eq_ofNat_of_zero_le zO;have hm:m<4:=by omega
     have P:=ae (B.out.only G H);have HL:=ae ((G.block Ay (au HL.out) zR).trans HL.out);clear G H B A;have A:Hid (v5.cell? ⟨X,0,none⟩=some (.slice (some ⟨g,0,none⟩) D.length c1)/\v5.cell? ⟨g,0,none⟩=some (.string r0.1.name)):=⟨P.out.box.1,by have h:=(P.out.at_ (k:=0) (j:=0) H0.out (by omega) rfl).1;simpa using h⟩
     refine d.out _ _ (fun _=>A.out) ?_;clear d K
     (try simp only[Act.put,nzL])
     obtain⟨zz,Ax,Bz⟩:=qt HL.out (by decide) (by decide) Az zU m hm
     iterate 4
      refine cB 12 rfl rfl (by as_aux_lemma=>kernel_rfl) (fun K d=>?_);go_simp;refine d.out _ _ (fun _=>A.out) ?_;clear d K
      (try simp only[Act.put,nzL])
     obtain⟨T,Z⟩:=P.out.at_ (j:=0) J.out (by omega) rfl;rw[Nat.add_zero] at T Z;have I:=P.out.gb.2.1;have S9:=ae (P.out.fld (j:=0) (u:=.string zz) (r':=({ r.1 with name:=zz },r.2)) J.out (by omega) rfl ((P.out.row.sub r HM.out).same _ rfl rfl rfl rfl) (U.name Ax));refine aj (i:=16) rfl (by as_aux_lemma=>kernel_rfl) (fun K d=>?_);go_simp;refine d.out _ _ (fun h=>absurd rfl h) ?_;clear d K A
     (try simp only[Act.put,nzL])
     refine aP (by as_aux_lemma=>kernel_rfl) ?_ _;clear T Z I P;go_wp2;go_meet;exact⟨_,_,_,_,by omega,S9.out⟩
    ·skip
     go_simp;go_at_call 51;refine(aA R _ 4 _ l.out.rd (by omega) (by omega) (by omega)).mono ?_;rintro e O ⟨z4,rfl,zO,Bm,H,G⟩;obtain⟨m,rfl⟩:=Int.eq_ofNat_of_zero_le zO;have hm:m<4:=by omega
     have B:=ae (l.out.only G H);clear G H l A;have A:Hid (O.cell? ⟨X,0,none⟩=some (.slice (some ⟨g,0,none⟩) D.length c1)/\O.cell? ⟨g,0,none⟩=some (.string r0.1.name)):=⟨B.out.box.1,by have h:=(B.out.at_ (k:=0) (j:=0) H0.out (by omega) rfl).1;simpa using h⟩
     refine d.out _ _ (fun _=>A.out) ?_;clear d K
     (try simp only[Act.put,nzL])
     refine aj (i:=9) rfl (by as_aux_lemma=>kernel_rfl) (fun K d=>?_);go_simp;have A4:=(q9 O).alloc ly (.cells #[.string ⟨#[]⟩,.string ⟨#[120,32,121]⟩,.string r0.1.name,.string t] 9);have HL:Hid ((O.alloc (.cells #[.string ⟨#[]⟩,.string ⟨#[120,32,121]⟩,.string r0.1.name,.string t] 9)).heap[O.heap.size]?=some (.cells #[.string ⟨#[]⟩,.string ⟨#[120,32,121]⟩,.string r0.1.name,.string t] 9 (0,0))):=heap_alloc_new O _;have P:=ae (B.out.below A4);have Ah:=B.out.lt;have Al:=B.out.hX;have zR:O.heap.size≠R:=by omega
     clear A4 A Ah Al;generalize O.alloc (.cells #[.string ⟨#[]⟩,.string ⟨#[120,32,121]⟩,.string r0.1.name,.string t] 9)=v5 at P HL ⊢;generalize O.heap.size=Ay at HL zR ⊢;have A:Hid (v5.cell? ⟨X,0,none⟩=some (.slice (some ⟨g,0,none⟩) D.length c1)/\v5.cell? ⟨g,0,none⟩=some (.string r0.1.name)):=⟨P.out.box.1,by have h:=(P.out.at_ (k:=0) (j:=0) H0.out (by omega) rfl).1;simpa using h⟩
     refine d.out _ _ (fun _=>A.out) ?_;clear d K
     (try simp only[Act.put,nzL])
     obtain⟨zz,Ax,Bz⟩:=qt HL.out (by decide) (by decide) Az zU m hm
     iterate 4
      refine cB 12 rfl rfl (by as_aux_lemma=>kernel_rfl) (fun K d=>?_);go_simp;refine d.out _ _ (fun _=>A.out) ?_;clear d K
      (try simp only[Act.put,nzL])
     obtain⟨T,Z⟩:=P.out.at_ (j:=0) J.out (by omega) rfl;rw[Nat.add_zero] at T Z;have I:=P.out.gb.2.1;have S9:=ae (P.out.fld (j:=0) (u:=.string zz) (r':=({ r.1 with name:=zz },r.2)) J.out (by omega) rfl ((P.out.row.sub r HM.out).same _ rfl rfl rfl rfl) (U.name Ax));refine aj (i:=16) rfl (by as_aux_lemma=>kernel_rfl) (fun K d=>?_);go_simp;refine d.out _ _ (fun h=>absurd rfl h) ?_;clear d K A
     (try simp only[Act.put,nzL])
     refine aP (by as_aux_lemma=>kernel_rfl) ?_ _;clear T Z I P;go_wp2;go_meet;exact⟨_,_,_,_,by omega,S9.out⟩
  ·as_aux_lemma =>
    skip;go_wp2_with fail;refine aJ (fun V=>V.cell? ⟨X,0,none⟩=some (.slice (some ⟨g,0,none⟩) D.length c1)) 7 (by as_aux_lemma=>kernel_rfl) ?_;have l:=ae (E.out.below br.drew);clear E;generalize L.drew=C at l ⊢;have A:=ae l.out.box.1
    iterate 4
     refine aM 0 (v:=?_) rfl rfl (by as_aux_lemma=>kernel_rfl) (fun _ _ _ h=>h) rfl ?_ A.out ?_;rotate_left
     ·(intro wz s0;go_simp)
      (try with_reducible rfl)
     (try simp only[Act.put,nzL])
    refine aj (i:=4) rfl (by as_aux_lemma=>kernel_rfl) (fun K d=>?_);go_simp;go_at_call 51;refine(aA R _ 5 _ l.out.rd (by omega) (by omega) (by omega)).mono ?_;rintro e O ⟨z4,rfl,AY,Bh,H,G⟩;have B:=ae (l.out.only G H);clear G H l A;have A:=ae B.out.box.1;refine d.out _ _ (fun _=>A.out) ?_;clear d K
    (try simp only[Act.put,nzL])
    iterate 2
     refine cB 5 rfl rfl (by as_aux_lemma=>kernel_rfl) (fun K d=>?_);go_simp;refine d.out _ _ (fun _=>A.out) ?_;clear d K
     (try simp only[Act.put,nzL])
    obtain⟨T,Z⟩:=B.out.at_ (j:=1) J.out (by omega) rfl;have I:=B.out.gb.2.1;have M:=ae (B.out.fld (j:=1) (u:=.int .i64 z4) (r':=({ r.1 with kind:=z4 },r.2)) J.out (by omega) rfl ((B.out.row.sub r HM.out).same _ rfl rfl rfl rfl) (U.kind z4));refine aj (i:=7) rfl (by as_aux_lemma=>kernel_rfl) (fun K d=>?_);go_simp;refine d.out _ _ (fun h=>absurd rfl h) ?_;clear d K A
    (try simp only[Act.put,nzL])
    refine aP (by as_aux_lemma=>kernel_rfl) ?_ _;clear T Z I B;go_wp2;go_meet;exact⟨_,_,_,_,by omega,M.out⟩
  ·as_aux_lemma =>
    skip;go_wp2_with fail;refine aJ (fun V=>V.cell? ⟨X,0,none⟩=some (.slice (some ⟨g,0,none⟩) D.length c1)) 8 (by as_aux_lemma=>kernel_rfl) ?_;have l:=ae (E.out.below br.drew);clear E;generalize L.drew=C at l ⊢;have A:=ae l.out.box.1
    iterate 4
     refine aM 0 (v:=?_) rfl rfl (by as_aux_lemma=>kernel_rfl) (fun _ _ _ h=>h) rfl ?_ A.out ?_;rotate_left
     ·(intro wz s0;go_simp)
      (try with_reducible rfl)
     (try simp only[Act.put,nzL])
    refine aj (i:=4) rfl (by as_aux_lemma=>kernel_rfl) (fun K d=>?_);go_simp;go_at_call 51;refine(aA R _ 8 _ l.out.rd (by omega) (by omega) (by omega)).mono ?_;rintro e O ⟨z4,rfl,AY,Bh,H,G⟩;have B:=ae (l.out.only G H);clear G H l A;have A:=ae B.out.box.1;refine d.out _ _ (fun _=>A.out) ?_;clear d K
    (try simp only[Act.put,nzL])
    have AF:IntKind.i64.wrap (z4 - 1)=z4 - 1:=by rw[IntKind.wrap_i64];omega
    iterate 3
     refine cB 5 rfl rfl (by as_aux_lemma=>kernel_rfl) (fun K d=>?_);go_simp;refine d.out _ _ (fun _=>A.out) ?_;clear d K
     (try simp only[Act.put,nzL])
    obtain⟨T,Z⟩:=B.out.at_ (j:=2) J.out (by omega) rfl;have I:=B.out.gb.2.1;have M:=ae (B.out.fld (j:=2) (u:=.int .i64 (z4 - 1)) (r':=({ r.1 with code:=z4 - 1 },r.2)) J.out (by omega) rfl ((B.out.row.sub r HM.out).same _ rfl rfl rfl rfl) (U.code _));refine aj (i:=8) rfl (by as_aux_lemma=>kernel_rfl) (fun K d=>?_);go_simp;refine d.out _ _ (fun h=>absurd rfl h) ?_;clear d K A
    (try simp only[Act.put,nzL])
    refine aP (by as_aux_lemma=>kernel_rfl) ?_ _;clear T Z I B;go_wp2;go_meet;exact⟨_,_,_,_,by omega,M.out⟩
  ·as_aux_lemma =>
    go_wp2_with fail;refine aJ (fun V=>V.cell? ⟨X,0,none⟩=some (.slice (some ⟨g,0,none⟩) D.length c1)/\V.cell? ⟨g,k*6+3,none⟩=some (.string r.1.text)) 12 (by as_aux_lemma=>kernel_rfl) ?_;have l:=ae (E.out.below br.drew);clear E;generalize L.drew=C at l ⊢;have A:Hid (C.cell? ⟨X,0,none⟩=some (.slice (some ⟨g,0,none⟩) D.length c1)/\C.cell? ⟨g,k*6+3,none⟩=some (.string r.1.text)):=⟨l.out.box.1,(l.out.at_ (j:=3) J.out (by omega) rfl).1⟩
    have hsz:¬ 9223372036854775807<r.1.text.size+1:=by omega
    have Bo:(r.1.text++⟨#[120]⟩).size<=5000:=by have e1:(⟨#[120]⟩:ByteArray).size=1:=rfl;rw[ByteArray.size_append,e1];omega
    iterate 9
     refine aM 0 (v:=?_) rfl rfl (by as_aux_lemma=>kernel_rfl) (fun _ _ _ h=>h) rfl ?_ A.out ?_;rotate_left
     ·(intro wz aq;obtain⟨s0,s1⟩:=aq;go_simp)
      (try with_reducible rfl)
     (try simp only[Act.put,nzL])
    iterate 3
     refine cB 9 rfl rfl (by as_aux_lemma=>kernel_rfl) (fun K d=>?_);go_simp;refine d.out _ _ (fun _=>A.out) ?_;clear d K
     (try simp only[Act.put,nzL])
    obtain⟨T,Z⟩:=l.out.at_ (j:=3) J.out (by omega) rfl;have I:=l.out.gb.2.1;have M:=ae (l.out.fld (j:=3) (u:=.string (r.1.text++⟨#[120]⟩)) (r':=({ r.1 with text:=r.1.text++⟨#[120]⟩ },r.2)) J.out (by omega) rfl ((l.out.row.sub r HM.out).same _ rfl rfl rfl rfl) (U.text Bo));refine aj (i:=12) rfl (by as_aux_lemma=>kernel_rfl) (fun K d=>?_);go_simp;refine d.out _ _ (fun h=>absurd rfl h) ?_;clear d K A
    (try simp only[Act.put,nzL])
    refine aP (by as_aux_lemma=>kernel_rfl) ?_ _;clear T Z I l;go_wp2;go_meet;exact⟨_,_,_,_,by omega,M.out⟩
  ·as_aux_lemma =>
    skip;go_wp2_with fail;refine aJ (fun V=>V.cell? ⟨X,0,none⟩=some (.slice (some ⟨g,0,none⟩) D.length c1)) 9 (by as_aux_lemma=>kernel_rfl) ?_;have l:=ae (E.out.below br.drew);clear E;generalize L.drew=C at l ⊢;have A:=ae l.out.box.1
    iterate 4
     refine aM 0 (v:=?_) rfl rfl (by as_aux_lemma=>kernel_rfl) (fun _ _ _ h=>h) rfl ?_ A.out ?_;rotate_left
     ·(intro wz s0;go_simp)
      (try with_reducible rfl)
     (try simp only[Act.put,nzL])
    refine aj (i:=4) rfl (by as_aux_lemma=>kernel_rfl) (fun K d=>?_);go_simp;go_at_call 51;refine(aA R _ 2 _ l.out.rd (by omega) (by omega) (by omega)).mono ?_;rintro e O ⟨z4,rfl,AY,Bh,H,G⟩;have B:=ae (l.out.only G H);clear G H l A;have A:=ae B.out.box.1;refine d.out _ _ (fun _=>A.out) ?_;clear d K
    (try simp only[Act.put,nzL])
    have AF:IntKind.i64.wrap (2000+z4)=2000+z4:=by rw[IntKind.wrap_i64];omega
    refine aj (i:=5) rfl (by as_aux_lemma=>kernel_rfl) (fun K d=>?_);go_simp;refine d.out _ _ (fun _=>A.out) ?_;clear d K
    (try simp only[Act.put,nzL])
    obtain⟨m0,Ad⟩:∃ m0:Nat,2000+z4=(m0:Int):=⟨(2000+z4).toNat,by omega⟩
    rw[Ad];refine aj (i:=6) rfl (by as_aux_lemma=>kernel_rfl) (fun K d=>?_);go_simp;go_at_call 54;refine(fx ⟨#[116]⟩ m0 _ (by show 1*m0<=4000;omega) (by omega)).mono ?_;rintro e v6 ⟨t,rfl,ht,hw⟩;rw[hw];have zU:t.size<=5000:=Nat.le_trans ht (by show 1*m0<=5000;omega);clear ht hw AF;refine d.out _ _ (fun _=>A.out) ?_;clear d K
    (try simp only[Act.put,nzL])
    iterate 2
     refine cB 7 rfl rfl (by as_aux_lemma=>kernel_rfl) (fun K d=>?_);go_simp;refine d.out _ _ (fun _=>A.out) ?_;clear d K
     (try simp only[Act.put,nzL])
    obtain⟨T,Z⟩:=B.out.at_ (j:=3) J.out (by omega) rfl;have I:=B.out.gb.2.1;have M:=ae (B.out.fld (j:=3) (u:=.string t) (r':=({ r.1 with text:=t },r.2)) J.out (by omega) rfl ((B.out.row.sub r HM.out).same _ rfl rfl rfl rfl) (U.text zU));refine aj (i:=9) rfl (by as_aux_lemma=>kernel_rfl) (fun K d=>?_);go_simp;refine d.out _ _ (fun h=>absurd rfl h) ?_;clear d K A
    (try simp only[Act.put,nzL])
    refine aP (by as_aux_lemma=>kernel_rfl) ?_ _;clear T Z I B;go_wp2;go_meet;exact⟨_,_,_,_,by omega,M.out⟩
  ·as_aux_lemma =>
    obtain⟨⟨ga,ca,ea⟩,-⟩:=n8.out r HM.out;have EA:=ae ea;clear ea;go_wp2_with fail;refine aJ (fun V=>V.cell? ⟨X,0,none⟩=some (.slice (some ⟨g,0,none⟩) D.length c1)/\V.cell? ⟨g,k*6+4,none⟩=some (.slice (some ⟨ga,0,none⟩) r.1.actN ca)) 13 (by as_aux_lemma=>kernel_rfl) ?_;have l:=ae (E.out.below br.drew);clear E;generalize L.drew=C at l ⊢;have A:Hid (C.cell? ⟨X,0,none⟩=some (.slice (some ⟨g,0,none⟩) D.length c1)/\C.cell? ⟨g,k*6+4,none⟩=some (.slice (some ⟨ga,0,none⟩) r.1.actN ca)):=⟨l.out.box.1,(l.out.at_ (j:=4) J.out (by omega) (by rw[<-EA.out];rfl)).1⟩
    iterate 10
     refine aM 0 (v:=?_) rfl rfl (by as_aux_lemma=>kernel_rfl) (fun _ _ _ h=>h) rfl ?_ A.out ?_;rotate_left
     ·(intro wz aq;obtain⟨s0,s1⟩:=aq;go_simp)
      (try with_reducible rfl)
     (try simp only[Act.put,nzL])
    refine aj (i:=10) rfl (by as_aux_lemma=>kernel_rfl) (fun K d=>?_);go_simp;go_at_call 131;refine(ve (l.out.row.sub r HM.out) EA.out l.out.rd (by omega) U Bw).mono ?_;rintro e O ⟨L4,g4,c4,rfl,AP,-,Ci,Bd,q4,hq4,H,G⟩;have B:=ae (l.out.only G H);have A8:=l.out.lt;have I4:Hid (O.ownsRow (w.heap.size+2) 176 3 (.slice (some ⟨g4,0,none⟩) L4.length c4) L4.length (bI (cE L4) L4.length)):=by show World.ownsRow _ _ _ _ _ _ _;rw[<-pU];exact aB AP (by omega)
    have T4:=ae Bd;clear G H l A AP Bd A8;have A:Hid (O.cell? ⟨X,0,none⟩=some (.slice (some ⟨g,0,none⟩) D.length c1)/\O.cell? ⟨g,k*6+4,none⟩=some (.slice (some ⟨ga,0,none⟩) r.1.actN ca)):=⟨B.out.box.1,(B.out.at_ (j:=4) J.out (by omega) (by rw[<-EA.out];rfl)).1⟩
    refine d.out _ _ (fun _=>A.out) ?_;clear d K
    (try simp only[Act.put,nzL])
    iterate 2
     refine cB 11 rfl rfl (by as_aux_lemma=>kernel_rfl) (fun K d=>?_);go_simp;refine d.out _ _ (fun _=>A.out) ?_;clear d K
     (try simp only[Act.put,nzL])
    have T:=A.out.2;have Z:=(B.out.at_ (j:=4) J.out (by omega) rfl).2;have I:=B.out.gb.2.1;have M:=ae (B.out.fld (j:=4) (u:=.slice (some ⟨g4,0,none⟩) L4.length c4) (r':=({ r.1 with actN:=L4.length,act:=cE L4 },.slice (some ⟨g4,0,none⟩) L4.length c4,r.2.2)) J.out (by omega) rfl ⟨I4.out,(B.out.row.sub r HM.out).lnk⟩ ⟨U.nm,U.tx,by show L4.length<=300;omega,jq T4.out,U.ln,U.lsz⟩);refine aj (i:=13) rfl (by as_aux_lemma=>kernel_rfl) (fun K d=>?_);go_simp;refine d.out _ _ (fun h=>absurd rfl h) ?_;clear d K A
    (try simp only[Act.put,nzL])
    refine aP (by as_aux_lemma=>kernel_rfl) ?_ _;clear T Z I B;go_wp2;go_meet;exact⟨_,_,_,_,by omega,M.out⟩
  ·as_aux_lemma =>
    obtain⟨⟨ga,ca,ea⟩,I,cl,el⟩:=n8.out r HM.out;have EA:=ae ea;have EL:=ae el;clear ea el;rcases h6 with rfl | rfl | rfl
    iterate 3
     ·go_wp2_with fail
      refine aJ (fun V=>V.cell? ⟨X,0,none⟩=some (.slice (some ⟨g,0,none⟩) D.length c1)/\V.cell? ⟨g,k*6,none⟩=some (.string r.1.name)/\V.cell? ⟨g,k*6+1,none⟩=some (.int .i64 r.1.kind)/\V.cell? ⟨g,k*6+2,none⟩=some (.int .i64 r.1.code)/\V.cell? ⟨g,k*6+3,none⟩=some (.string r.1.text)/\V.cell? ⟨g,k*6+4,none⟩=some (.slice (some ⟨ga,0,none⟩) r.1.actN ca)/\V.cell? ⟨g,k*6+5,none⟩=some (.slice (some ⟨I,0,none⟩) r.1.linksN cl)) 11 (by as_aux_lemma=>kernel_rfl) ?_;have l:=ae (E.out.below br.drew);clear E;generalize L.drew=C at l ⊢;have A:Hid (C.cell? ⟨X,0,none⟩=some (.slice (some ⟨g,0,none⟩) D.length c1)/\C.cell? ⟨g,k*6,none⟩=some (.string r.1.name)/\C.cell? ⟨g,k*6+1,none⟩=some (.int .i64 r.1.kind)/\C.cell? ⟨g,k*6+2,none⟩=some (.int .i64 r.1.code)/\C.cell? ⟨g,k*6+3,none⟩=some (.string r.1.text)/\C.cell? ⟨g,k*6+4,none⟩=some (.slice (some ⟨ga,0,none⟩) r.1.actN ca)/\C.cell? ⟨g,k*6+5,none⟩=some (.slice (some ⟨I,0,none⟩) r.1.linksN cl)):=⟨l.out.box.1,by have h:=(l.out.at_ (j:=0) J.out (by omega) rfl).1;rwa[Nat.add_zero] at h,(l.out.at_ (j:=1) J.out (by omega) rfl).1,(l.out.at_ (j:=2) J.out (by omega) rfl).1,(l.out.at_ (j:=3) J.out (by omega) rfl).1,(l.out.at_ (j:=4) J.out (by omega) (by rw[<-EA.out];rfl)).1,(l.out.at_ (j:=5) J.out (by omega) (by rw[<-EL.out];rfl)).1⟩
      iterate 9
       refine aM 0 (v:=?_) rfl rfl (by as_aux_lemma=>kernel_rfl) (fun _ _ _ h=>h) rfl ?_ A.out ?_;rotate_left
       ·(intro wz aq;obtain⟨s0,s1,s2,s3,s4,s5,s6⟩:=aq;go_simp)
        (try with_reducible rfl)
       (try simp only[Act.put,nzL])
      refine aj (i:=9) rfl (by as_aux_lemma=>kernel_rfl) (fun K d=>?_);go_simp;go_at_call 208;refine(my w R _ (w.heap.size+2) I cl r.1.linksN r.1.links r.1.name r.1.text r.1.kind r.1.code (some ⟨ga,0,none⟩) r.1.actN ca _ l.out.o As (by omega) (by have:=l.out.lt;omega) l.out.rd (by omega) (by rw[<-EL.out];exact(l.out.row.sub r HM.out).lnk) Cv U.lsz).mono ?_;rintro e O ⟨g5,n5,c5,f5,rfl,Ar,hn5,AD,⟨q5,hq5,AK⟩,AG,la⟩;obtain⟨kX,kg,AH⟩:=l.out.kept HM.out EL.out la;have M:Hid (SpS w R X (gw O g k ({ r.1 with linksN:=n5,links:=f5 },.slice (some ⟨ga,0,none⟩) r.1.actN ca,.slice (some ⟨g5,0,none⟩) n5 c5)) q5 (some ⟨g,0,none⟩) c1 _):=l.out.deed Bc.out J.out HM.out EL.out AK AG la _ ⟨l.out.actK HM.out EA.out EL.out la,Ar⟩ ⟨U.nm,U.tx,U.an,U.asz,by show n5<=300;omega,AD⟩;have F4:Hid (∀ j,j<6->O.frozen? ⟨g,k*6+j,none⟩=false):=fun j hj=>(World.frozen?_of_block (a:=⟨g,k*6+j,none⟩) kg).trans (l.out.at_ (j:=j) J.out hj (gq (show j<(ddV r).length from hj))).2;have zE:Hid (O.cell? ⟨X,0,none⟩=some (.slice (some ⟨g,0,none⟩) D.length c1)/\O.cell? ⟨g,k*6,none⟩=some (.string r.1.name)/\O.cell? ⟨g,k*6+1,none⟩=some (.int .i64 r.1.kind)/\O.cell? ⟨g,k*6+2,none⟩=some (.int .i64 r.1.code)/\O.cell? ⟨g,k*6+3,none⟩=some (.string r.1.text)/\O.cell? ⟨g,k*6+4,none⟩=some (.slice (some ⟨ga,0,none⟩) r.1.actN ca)/\O.cell? ⟨g,k*6+5,none⟩=some (.slice (some ⟨I,0,none⟩) r.1.linksN cl)):=⟨(cq (a:=⟨X,0,none⟩) kX).trans A.out.1,(cq (a:=⟨g,k*6,none⟩) kg).trans A.out.2.1,(cq (a:=⟨g,k*6+1,none⟩) kg).trans A.out.2.2.1,(cq (a:=⟨g,k*6+2,none⟩) kg).trans A.out.2.2.2.1,(cq (a:=⟨g,k*6+3,none⟩) kg).trans A.out.2.2.2.2.1,(cq (a:=⟨g,k*6+4,none⟩) kg).trans A.out.2.2.2.2.2.1,(cq (a:=⟨g,k*6+5,none⟩) kg).trans A.out.2.2.2.2.2.2⟩
      clear AK AG la Ar AD kX kg A l;have A:=zE;clear zE;refine d.out _ _ (fun _=>A.out) ?_;clear d K
      (try simp only[Act.put,nzL])
      refine aj (i:=10) rfl (by as_aux_lemma=>kernel_rfl) (fun K d=>?_);go_simp;refine d.out _ _ (fun _=>A.out) ?_;clear d K
      (try simp only[Act.put,nzL])
      obtain⟨-,T,Z,d2,d3,d4,d5⟩:=A.out;have y0:=F4.out 0 (by omega);have y1:=F4.out 1 (by omega);have y2:=F4.out 2 (by omega);have y3:=F4.out 3 (by omega);have y4:=F4.out 4 (by omega);have y5:=F4.out 5 (by omega);rw[Nat.add_zero] at y0;refine aj (i:=11) rfl (by as_aux_lemma=>kernel_rfl) (fun K d=>?_);go_simp;refine d.out _ _ (fun h=>absurd rfl h) ?_;clear d K A
      (try simp only[Act.put,nzL])
      refine aP (by as_aux_lemma=>kernel_rfl) ?_ _;clear T Z d2 d3 d4 d5 y0 y1 y2 y3 y4 y5;go_wp2;go_meet;exact⟨_,_,_,_,by omega,M.out⟩
  ·skip
   by_cases Bv:(0:Int)<(k:Int)
   ·obtain⟨m,rfl⟩:∃ m,k=m+1:=⟨k - 1,by omega⟩
    have h1l:(1:Int)<(D.length:Int):=by omega
    obtain⟨r1,AQ,zY⟩:=dI (R:=D) (i:=m) (by omega);have ld:=ae AQ;have Ag:=ae zY;clear AQ zY;obtain⟨⟨ga,ca,ea⟩,I,cl,el⟩:=n8.out r HM.out;obtain⟨⟨gb,cb,eb⟩,gm,cm,em⟩:=n8.out r1 Ag.out;have EA:=ae ea;have EL:=ae el;have EB:=ae eb;have EM:=ae em;clear ea el eb em;have Ce:=(zK.out r1 Ag.out).1;have bx:=E.out.box.1;have C2:Hid (L.cell? ⟨g,(m+1)*6,none⟩=some (.string r.1.name)/\L.cell? ⟨g,(m+1)*6+1,none⟩=some (.int .i64 r.1.kind)/\L.cell? ⟨g,(m+1)*6+2,none⟩=some (.int .i64 r.1.code)/\L.cell? ⟨g,(m+1)*6+3,none⟩=some (.string r.1.text)/\L.cell? ⟨g,(m+1)*6+4,none⟩=some (.slice (some ⟨ga,0,none⟩) r.1.actN ca)/\L.cell? ⟨g,(m+1)*6+5,none⟩=some (.slice (some ⟨I,0,none⟩) r.1.linksN cl)):=⟨by have h:=(E.out.at_ (j:=0) J.out (by omega) rfl).1;rwa[Nat.add_zero] at h,(E.out.at_ (j:=1) J.out (by omega) rfl).1,(E.out.at_ (j:=2) J.out (by omega) rfl).1,(E.out.at_ (j:=3) J.out (by omega) rfl).1,(E.out.at_ (j:=4) J.out (by omega) (by rw[<-EA.out];rfl)).1,(E.out.at_ (j:=5) J.out (by omega) (by rw[<-EL.out];rfl)).1⟩
    obtain⟨e0,e1,e2,e3,e4,e5⟩:=C2.out;have AB:=ae ((q9 L).alloc ly (.cells #[.string r.1.name,.int .i64 r.1.kind,.int .i64 r.1.code,.string r.1.text,.slice (some ⟨ga,0,none⟩) r.1.actN ca,.slice (some ⟨I,0,none⟩) r.1.linksN cl] 67));have YB:=ae (heap_alloc_new L (.cells #[.string r.1.name,.int .i64 r.1.kind,.int .i64 r.1.code,.string r.1.text,.slice (some ⟨ga,0,none⟩) r.1.actN ca,.slice (some ⟨I,0,none⟩) r.1.linksN cl] 67));have l:=ae (E.out.below AB.out);have hwm:IntKind.i64.wrap (((m+1:Nat):Int) - 1)=(m:Int):=by rw[IntKind.wrap_i64];omega
    have hwm2:IntKind.i64.wrap (m:Int)=(m:Int):=by rw[IntKind.wrap_i64];omega
    have hml:m<D.length:=by omega
    have BU:(m:Int)+1<(D.length:Int):=by omega
    have hk2:(0:Int)<=(m:Int)+1:=by omega
    have Bp:((m:Int)+1).toNat=m+1:=by omega
    go_upto_region 41 with fail;generalize L.alloc (.cells #[.string r.1.name,.int .i64 r.1.kind,.int .i64 r.1.code,.string r.1.text,.slice (some ⟨ga,0,none⟩) r.1.actN ca,.slice (some ⟨I,0,none⟩) r.1.linksN cl] 67)=v2 at l YB ⊢;have Bi:L.heap.size≠g:=by have:=E.out.gb.2.1;omega
    generalize L.heap.size=yb at YB Bi ⊢;clear bx e0 e1 e2 e3 e4 e5 C2 AB E;refine aJ (fun V=>V.cell? ⟨X,0,none⟩=some (.slice (some ⟨g,0,none⟩) D.length c1)/\V.cell? ⟨g,m*6,none⟩=some (.string r1.1.name)/\V.cell? ⟨g,m*6+1,none⟩=some (.int .i64 r1.1.kind)/\V.cell? ⟨g,m*6+2,none⟩=some (.int .i64 r1.1.code)/\V.cell? ⟨g,m*6+3,none⟩=some (.string r1.1.text)/\V.cell? ⟨g,m*6+4,none⟩=some (.slice (some ⟨gb,0,none⟩) r1.1.actN cb)/\V.cell? ⟨g,m*6+5,none⟩=some (.slice (some ⟨gm,0,none⟩) r1.1.linksN cm)) 10 (by as_aux_lemma=>kernel_rfl) ?_;have B:=ae (l.out.below br.drew);have An:Hid (v2.drew.heap[yb]?=some (.cells #[.string r.1.name,.int .i64 r.1.kind,.int .i64 r.1.code,.string r.1.text,.slice (some ⟨ga,0,none⟩) r.1.actN ca,.slice (some ⟨I,0,none⟩) r.1.linksN cl] 67 (0,0))):=YB.out;clear l YB;generalize v2.drew=C at B An ⊢;have A:Hid (C.cell? ⟨X,0,none⟩=some (.slice (some ⟨g,0,none⟩) D.length c1)/\C.cell? ⟨g,m*6,none⟩=some (.string r1.1.name)/\C.cell? ⟨g,m*6+1,none⟩=some (.int .i64 r1.1.kind)/\C.cell? ⟨g,m*6+2,none⟩=some (.int .i64 r1.1.code)/\C.cell? ⟨g,m*6+3,none⟩=some (.string r1.1.text)/\C.cell? ⟨g,m*6+4,none⟩=some (.slice (some ⟨gb,0,none⟩) r1.1.actN cb)/\C.cell? ⟨g,m*6+5,none⟩=some (.slice (some ⟨gm,0,none⟩) r1.1.linksN cm)):=⟨B.out.box.1,by have h:=(B.out.at_ (j:=0) ld.out (by omega) rfl).1;rwa[Nat.add_zero] at h,(B.out.at_ (j:=1) ld.out (by omega) rfl).1,(B.out.at_ (j:=2) ld.out (by omega) rfl).1,(B.out.at_ (j:=3) ld.out (by omega) rfl).1,(B.out.at_ (j:=4) ld.out (by omega) (by rw[<-EB.out];rfl)).1,(B.out.at_ (j:=5) ld.out (by omega) (by rw[<-EM.out];rfl)).1⟩
    iterate 9
     refine aM 0 (v:=?_) rfl rfl (by as_aux_lemma=>kernel_rfl) (fun _ _ _ h=>h) rfl ?_ A.out ?_;rotate_left
     ·(intro wz aq;obtain⟨s0,s1,s2,s3,s4,s5,s6⟩:=aq;go_simp)
      (try with_reducible rfl)
     (try simp only[Act.put,nzL])
    refine aj (i:=9) rfl (by as_aux_lemma=>kernel_rfl) (fun K d=>?_);go_simp;refine d.out _ _ (fun _=>A.out) ?_;clear d K
    (try simp only[Act.put,nzL])
    have F4:Hid (∀ j,j<6->C.frozen? ⟨g,(m+1)*6+j,none⟩=false/\∃ u,C.cell? ⟨g,(m+1)*6+j,none⟩=some u):=fun j hj=>by have h:=B.out.at_ (j:=j) J.out hj (gq (show j<(ddV r).length from hj));exact⟨h.2,_,h.1⟩
    obtain⟨y0,u0,T⟩:=F4.out 0 (by omega);obtain⟨y1,u1,Z⟩:=F4.out 1 (by omega);obtain⟨y2,u2,d2⟩:=F4.out 2 (by omega);obtain⟨y3,u3,d3⟩:=F4.out 3 (by omega);obtain⟨y4,u4,d4⟩:=F4.out 4 (by omega);obtain⟨y5,u5,d5⟩:=F4.out 5 (by omega);rw[Nat.add_zero] at y0 T;have AH:=B.out.gb.2.1;have M:=ae (B.out.six J.out (r1.1,.slice (some ⟨gb,0,none⟩) r1.1.actN cb,.slice (some ⟨gm,0,none⟩) r1.1.linksN cm) ((B.out.row.sub r1 Ag.out).form EB.out EM.out) Ce);have Af:=ae ((eo C g (m+1) yb (r1.1,.slice (some ⟨gb,0,none⟩) r1.1.actN cb,.slice (some ⟨gm,0,none⟩) r1.1.linksN cm) Bi).trans An.out);have T5:Hid (DSub (gw C g (m+1) (r1.1,.slice (some ⟨gb,0,none⟩) r1.1.actN cb,.slice (some ⟨gm,0,none⟩) r1.1.linksN cm)) (w.heap.size+2) (r.1,.slice (some ⟨ga,0,none⟩) r.1.actN ca,.slice (some ⟨I,0,none⟩) r.1.linksN cl)):=by obtain⟨cs,z,hg⟩:=B.out.gb.2.2.2;exact((B.out.row.sub r HM.out).form EA.out EL.out).six hg
    unfold gw at M Af T5;refine aj (i:=10) rfl (by as_aux_lemma=>kernel_rfl) (fun K d=>?_);go_simp;refine d.out _ _ (fun h=>absurd rfl h) ?_;clear d K A
    (try simp only[Act.put,nzL])
    refine aP (by as_aux_lemma=>kernel_rfl) ?_ _;clear T Z d2 d3 d4 d5 y0 y1 y2 y3 y4 y5 AH F4 B An;go_upto_region 42 with fail;generalize (((((C.setCell ⟨g,(m+1)*6,none⟩ (.string r1.1.name)).setCell ⟨g,(m+1)*6+1,none⟩ (.int .i64 r1.1.kind)).setCell ⟨g,(m+1)*6+2,none⟩ (.int .i64 r1.1.code)).setCell ⟨g,(m+1)*6+3,none⟩ (.string r1.1.text)).setCell ⟨g,(m+1)*6+4,none⟩ (.slice (some ⟨gb,0,none⟩) r1.1.actN cb)).setCell ⟨g,(m+1)*6+5,none⟩ (.slice (some ⟨gm,0,none⟩) r1.1.linksN cm)=v5 at M Af T5 ⊢;have mv:Hid ((D.set (m+1) (r1.1,.slice (some ⟨gb,0,none⟩) r1.1.actN cb,.slice (some ⟨gm,0,none⟩) r1.1.linksN cm))[m]?=some r1):=by show _=_;rw[List.getElem?_set_ne (by omega)];exact ld.out
    have P:=ae (M.out.six mv.out (r.1,.slice (some ⟨ga,0,none⟩) r.1.actN ca,.slice (some ⟨I,0,none⟩) r.1.linksN cl) T5.out U);have bx:=M.out.box.1;rw[List.length_set] at bx;have S:=Af.out;have q0:v5.cell? ⟨yb,0,none⟩=some (.string r.1.name):=by simp[World.cell?,S]
    have q1:v5.cell? ⟨yb,1,none⟩=some (.int .i64 r.1.kind):=by simp[World.cell?,S]
    have q2:v5.cell? ⟨yb,2,none⟩=some (.int .i64 r.1.code):=by simp[World.cell?,S]
    have q3:v5.cell? ⟨yb,3,none⟩=some (.string r.1.text):=by simp[World.cell?,S]
    have q4:v5.cell? ⟨yb,4,none⟩=some (.slice (some ⟨ga,0,none⟩) r.1.actN ca):=by simp[World.cell?,S]
    have q5:v5.cell? ⟨yb,5,none⟩=some (.slice (some ⟨I,0,none⟩) r.1.linksN cl):=by simp[World.cell?,S]
    have F5:Hid (∀ j,j<6->v5.frozen? ⟨g,m*6+j,none⟩=false/\∃ u,v5.cell? ⟨g,m*6+j,none⟩=some u):=fun j hj=>by have h:=M.out.at_ (j:=j) mv.out hj (gq (show j<(ddV r1).length from hj));exact⟨h.2,_,h.1⟩
    obtain⟨y0,u0,T⟩:=F5.out 0 (by omega);obtain⟨y1,u1,Z⟩:=F5.out 1 (by omega);obtain⟨y2,u2,d2⟩:=F5.out 2 (by omega);obtain⟨y3,u3,d3⟩:=F5.out 3 (by omega);obtain⟨y4,u4,d4⟩:=F5.out 4 (by omega);obtain⟨y5,u5,d5⟩:=F5.out 5 (by omega);rw[Nat.add_zero] at y0 T;have gl5:=M.out.gb.2.1;clear S M;go_wp2;go_meet;exact⟨_,_,_,_,by omega,P.out⟩
   ·by_cases h1:(1:Int)<(D.length:Int)
    iterate 2
     ·go_wp2
      go_meet;exact⟨_,_,_,_,by omega,E.out⟩
  ·as_aux_lemma =>
    have hcap:=gZ E.out.row.own;obtain⟨Aa,hj,bt,n9,zT⟩:=info_parts fH;have Cq:IntKind.i64.wrap ((k:Int)+1)=(k:Int)+1:=by rw[IntKind.wrap_i64];omega
    have BU:(k:Int)+1<=(D.length:Int):=by omega
    have Bp:((k:Int)+1).toNat=k+1:=by omega
    have hkc:(k:Int)<=(c1:Int):=by omega
    have Bv:(0:Int)<=(k:Int)+1:=by omega
    obtain⟨A2,Bs,AE⟩:=tJ (base:=w.heap.size+2) (g:=g) (c:=c1) hk (by omega);have Bt:=ae AE;clear AE;go_wp2_with fail;refine aJ (fun V=>V.cell? ⟨X,0,none⟩=some (.slice (some ⟨g,0,none⟩) D.length c1)) 13 (by as_aux_lemma=>kernel_rfl) ?_;have l:=ae (E.out.below br.drew);clear E;generalize L.drew=C at l ⊢;have A:=ae l.out.box.1
    iterate 4
     refine aM 1 (v:=?_) rfl rfl (by as_aux_lemma=>kernel_rfl) (fun _ _ _ h=>h) rfl ?_ A.out ?_;rotate_left
     ·(intro wz s0;go_simp)
      (try with_reducible rfl)
     (try simp only[Act.put,nzL])
    iterate 5
     refine aM 6 (v:=?_) rfl rfl (by as_aux_lemma=>kernel_rfl) (fun _ _ _ h=>h) rfl ?_ A.out ?_;rotate_left
     ·(intro wz s0;go_simp)
      (try with_reducible rfl)
     (try simp only[Act.put,nzL])
    clear Bs;refine aj (i:=0) rfl (by as_aux_lemma=>kernel_rfl) (fun K d=>?_);go_simp;have A8:=l.out.lt;have Co:=l.out.hX;have A4:=ae ((q9 C).alloc ly (.cells #[] 67));have O4:=ae (World.ownsRow_made (base:=w.heap.size+2) (e:=67) (size:=6) C #[] 0 (by omega) (by unfold maxLen;omega) rfl);have B:=ae (l.out.below A4.out);have zE:=ae B.out.box.1;refine d.out _ _ (fun _=>zE.out) ?_;clear d K
    (try simp only[Act.put,nzL])
    refine aj (i:=5) rfl (by as_aux_lemma=>kernel_rfl) (fun K d=>?_);refine bq rfl (.tmp 247) (.tmp 251) 57 rfl (w.heap.size+2) 67 Aa (.agg #[.string ⟨#[]⟩,.int .i64 0,.int .i64 0,.string ⟨#[]⟩,.slice none 0 0,.slice none 0 0]) 6 96 Tryz.underlying57 hj bt n9 zT rfl (by decide) (.slice (some ⟨C.heap.size,0,none⟩) 0 0) 0 [] (by simp[Act.eval]) O4.out ⟨g,0,none⟩ k c1 ((D.take k).flatMap ddV) (by simp[Act.eval]) (by rw[eh ddV 6 (fun _=>rfl),List.length_take,Nat.min_eq_left (by omega)]) (uV k B.out.row.own) (fun u hu=>nf D n8.out u (by obtain⟨N,h2,h3⟩:=List.mem_flatMap.1 hu;exact List.mem_flatMap.2 ⟨N,List.mem_of_mem_take h2,h3⟩)) (by unfold maxLen;omega) (by omega) (by simp;omega) ?_;intro v5 w5 sm th Aj;simp only[Nat.zero_add,List.nil_append] at sm;have B5:=ae (bg A4.out th (by simp) (fun j e=>by simp[Value.ownBlock] at e;omega));have Aq:∀ j,v5.ownBlock=some j->C.heap.size<=j:=fun j e=>by
     rcases Aj with h | h
     ·rw[h] at e
      simp[Value.ownBlock] at e;omega
     ·rw[h] at e
      have:=Option.some.inj e;simp at this;omega
    have WB:=ae Aq;have O5:=ae sm;have M:=ae (l.out.below B5.out);have AV:=ae M.out.box.1;clear sm th Aj Aq B O4 A4 zE A;refine d.out _ _ (fun _=>AV.out) ?_;clear d K
    (try simp only[Act.put,nzL])
    obtain⟨a5,c5,rfl⟩:=aL O5.out;refine aj (i:=11) rfl (by as_aux_lemma=>kernel_rfl) (fun K d=>?_);refine bq rfl (.tmp 252) (.tmp 257) 57 rfl (w.heap.size+2) 67 Aa (.agg #[.string ⟨#[]⟩,.int .i64 0,.int .i64 0,.string ⟨#[]⟩,.slice none 0 0,.slice none 0 0]) 6 96 Tryz.underlying57 hj bt n9 zT rfl (by decide) (.slice a5 k c5) k ((D.take k).flatMap ddV) (by simp[Act.eval]) O5.out A2 (D.length - (k+1)) (c1 - (k+1)) ((D.drop (k+1)).flatMap ddV) (by simp[Act.eval]) (by rw[eh ddV 6 (fun _=>rfl),List.length_drop]) (Bt.out _ M.out.row.own) (fun u hu=>nf D n8.out u (by obtain⟨N,h2,h3⟩:=List.mem_flatMap.1 hu;exact List.mem_flatMap.2 ⟨N,List.mem_of_mem_drop h2,h3⟩)) (by unfold maxLen;omega) (by omega) (by have:=B5.out.size;omega) ?_;intro v6 w6 ex zF _;have B6:=ae (bg B5.out zF (B5.out.size) (fun j e=>WB.out j e));rw[<-List.flatMap_append] at ex;obtain⟨a6,c6,rfl⟩:=aL ex;obtain⟨D2,Ac⟩:∃ D2,D2=D.take k++D.drop (k+1):=⟨_,rfl⟩
    have zM:D2.length=k+(D.length - (k+1)):=by rw[Ac,List.length_append,List.length_take,List.length_drop,Nat.min_eq_left (by omega)]
    rw[<-Ac,<-zM] at ex;rw[<-zM];have P:=ae (l.out.below B6.out);have zP:∀ N∈D2,N∈D:=fun N h2=>by rw[Ac] at h2;exact(List.mem_append.1 h2).elim List.mem_of_mem_take List.mem_of_mem_drop
    have S7:=ae (l.out.box_ B6.out ex (fun N h2=>P.out.row.sub N (zP N h2)) (fun N h2=>P.out.fit N (zP N h2)) (by omega));clear Ac;have zZ:=ae P.out.box;clear ex zF zP zM M O5 WB AV;refine d.out _ _ (fun _=>zZ.out.1) ?_;clear d K
    (try simp only[Act.put,nzL])
    refine aj (i:=12) rfl (by as_aux_lemma=>kernel_rfl) (fun K d=>?_);go_simp;refine d.out _ _ (fun _=>zZ.out.1) ?_;clear d K
    (try simp only[Act.put,nzL])
    have T:=zZ.out.1;have Z:=zZ.out.2;have Cf:=P.out.lt;refine aj (i:=13) rfl (by as_aux_lemma=>kernel_rfl) (fun K d=>?_);go_simp;refine d.out _ _ (fun h=>absurd rfl h) ?_;clear d K
    (try simp only[Act.put,nzL])
    refine aP (by as_aux_lemma=>kernel_rfl) ?_ _;clear T Z Cf l P;go_wp2;go_meet;exact⟨_,_,_,_,by omega,S7.out⟩
  ·as_aux_lemma =>
    go_wp2_with fail;refine(aA R _ 3 _ E.out.rd (by omega) (by omega) (by omega)).mono ?_;rintro e w4 ⟨z,rfl,z0,z1,H,G⟩;have l:=ae (E.out.only G H);clear G H E;obtain⟨m,hm⟩:∃ m:Nat,60+z - 1=(m:Int):=⟨(60+z - 1).toNat,by omega⟩
    go_wp2_with fail;refine(Bq.out m _ (by omega)).mono ?_;rintro e w5 ⟨a5,n5,c5,f5,rfl,Bb,Ao⟩;have B:=ae (l.out.below Ao);have rs:=B.out.rs;have r0:w5.cell? ⟨w.heap.size+1,0,none⟩=some (.slice none 0 0):=by simp[World.cell?,rs]
    have f0:w5.frozen? ⟨w.heap.size+1,0,none⟩=false:=by simp[World.frozen?,rs]
    have l0:=au rs;have FN:=ae (l.out.other (Q:=p+1100) Ao Bb (by omega));clear rs Ao Bb;go_wp2;try simp only[Exit.inBlock,Exit.then]
    exact bp (v:=.agg #[.slice a5 n5 c5]) (by simp[results,Tryz.results170,go_sem,r0]) rfl FN.out
  ·skip
   have AB:=ae ((q9 L).alloc ly (.cells #[.string ⟨#[117,110,117,115,101,100]⟩,.int .i64 2,.int .i64 0,.string ⟨#[]⟩,.slice none 0 0,.slice none 0 0] 67));have FB:=ae (heap_alloc_new L (.cells #[.string ⟨#[117,110,117,115,101,100]⟩,.int .i64 2,.int .i64 0,.string ⟨#[]⟩,.slice none 0 0,.slice none 0 0] 67));have l:=ae (E.out.below AB.out);have Bg:w.heap.size+2<=L.heap.size:=by have:=E.out.lt;omega
   have Bf:L.heap.size≠X:=by have:=E.out.lt;omega
   have Bl:L.heap.size≠g:=by have:=E.out.gb.2.1;omega
   go_wp2_with fail;generalize L.alloc (.cells #[.string ⟨#[117,110,117,115,101,100]⟩,.int .i64 2,.int .i64 0,.string ⟨#[]⟩,.slice none 0 0,.slice none 0 0] 67)=v2 at l FB ⊢;generalize L.heap.size=fb at FB Bg Bf Bl ⊢;clear AB E;go_loopg [10] D.length (fun gh i wr=>∃ (k2 q2:Nat) (nm tx:ByteArray) (kd:Int),k2+gh=D.length/\q2<=p+2+k2/\i=.int .i64 k2/\nm.size<=5000/\tx.size<=5000/\Hid (SpS w R X wr q2 (some ⟨g,0,none⟩) c1 D)/\Hid (wr.heap[fb]?=some (.cells #[.string nm,.int .i64 kd,.int .i64 0,.string tx,.slice none 0 0,.slice none 0 0] 67 (0,0))));case atStart=>exact⟨0,_,_,_,_,by omega,by omega,rfl,by decide,by decide,l.out,FB.out⟩
   case round =>
    clear l FB;obtain⟨k2,q2,nm,tx,kd,hg2,hq2,rfl,AO,Ap,l,FB⟩:=hrel;have hwk:IntKind.i64.wrap ((k2:Int)+1)=(k2:Int)+1:=by rw[IntKind.wrap_i64];omega
    go_upto_region 9 with fail;go_cut [41] (fun Ck wx=>∃ (b1:Bool) (q3:Nat),Ck=.bool b1/\(b1=true->k2<D.length)/\q3<=q2+1/\Hid (SpS w R X wx q3 (some ⟨g,0,none⟩) c1 D)/\Hid (wx.heap[fb]?=some (.cells #[.string nm,.int .i64 kd,.int .i64 0,.string tx,.slice none 0 0,.slice none 0 0] 67 (0,0))));case first =>
     by_cases Am:(k2:Int)<(D.length:Int)
     ·go_wp2_with fail
      refine(aA R _ 2 _ l.out.rd (by omega) (by omega) (by omega)).mono ?_;rintro e w4 ⟨z,rfl,z0,z1,H,G⟩;have B:=ae (l.out.only G H);have zH:=ae ((G.block fb (au FB.out) (by omega)).trans FB.out);clear G H;go_wp2;go_meet;exact⟨_,_,rfl,fun _=>by omega,by omega,B.out,zH.out⟩
     ·go_wp2
      go_meet;exact⟨_,_,rfl,fun h=>by simp at h,by omega,l.out,FB.out⟩
    case rest =>
    clear l FB;obtain⟨b1,q3,rfl,Cm,hq3,l,FB⟩:=hcut;cases b1 with
    | true =>
     have Am:k2<D.length:=Cm rfl;obtain⟨N,AA,AU⟩:=dI (R:=D) Am;have mv:=ae AA;have AN:=(zK.out N AU).1;clear AA AU;have bx:=l.out.box.1;have Bj:=(l.out.at_ (j:=1) mv.out (by omega) rfl).1;by_cases h3:N.1.kind=3
     ·rw[h3] at Bj
      have H3:=ae h3;clear h3;go_wp2;go_roundg (D.length - 1 - k2);case measure=>omega
      case rel=>exact⟨k2+1,q3,nm,tx,kd,by omega,by omega,by go_num,AO,Ap,l.out,FB.out⟩
     ·have n3:(N.1.kind == 3)=false:=by simpa using h3
      go_upto_region 12 with fail;clear bx Bj;refine aJ (fun V=>V.cell? ⟨X,0,none⟩=some (.slice (some ⟨g,0,none⟩) D.length c1)/\V.cell? ⟨g,k2*6,none⟩=some (.string N.1.name)/\V.cell? ⟨g,k2*6+1,none⟩=some (.int .i64 N.1.kind)/\V.cell? ⟨g,k2*6+3,none⟩=some (.string N.1.text)) 19 (by as_aux_lemma=>kernel_rfl) ?_;have B:=ae (l.out.below br.drew);have zH:Hid (wc.drew.heap[fb]?=some (.cells #[.string nm,.int .i64 kd,.int .i64 0,.string tx,.slice none 0 0,.slice none 0 0] 67 (0,0))):=FB.out;clear l FB;generalize wc.drew=C at B zH ⊢;have A:Hid (C.cell? ⟨X,0,none⟩=some (.slice (some ⟨g,0,none⟩) D.length c1)/\C.cell? ⟨g,k2*6,none⟩=some (.string N.1.name)/\C.cell? ⟨g,k2*6+1,none⟩=some (.int .i64 N.1.kind)/\C.cell? ⟨g,k2*6+3,none⟩=some (.string N.1.text)):=⟨B.out.box.1,by have h:=(B.out.at_ (j:=0) mv.out (by omega) rfl).1;rwa[Nat.add_zero] at h,(B.out.at_ (j:=1) mv.out (by omega) rfl).1,(B.out.at_ (j:=3) mv.out (by omega) rfl).1⟩
      iterate 19
       refine aM 0 (v:=?_) rfl rfl (by as_aux_lemma=>kernel_rfl) (fun _ _ _ h=>h) rfl ?_ A.out ?_;rotate_left
       ·(intro wz aq;obtain⟨s0,s1,s2,s3⟩:=aq;go_simp)
        (try with_reducible rfl)
       (try simp only[Act.put,nzL])
      have S:=zH.out;have lf:=au S;have q0:C.cell? ⟨fb,0,none⟩=some (.string nm):=by simp[World.cell?,S]
      have q1:C.cell? ⟨fb,1,none⟩=some (.int .i64 kd):=by simp[World.cell?,S]
      have Cc:C.cell? ⟨fb,2,none⟩=some (.int .i64 0):=by simp[World.cell?,S]
      have Cl:C.cell? ⟨fb,3,none⟩=some (.string tx):=by simp[World.cell?,S]
      have q4:C.cell? ⟨fb,4,none⟩=some (.slice none 0 0):=by simp[World.cell?,S]
      have q5:C.cell? ⟨fb,5,none⟩=some (.slice none 0 0):=by simp[World.cell?,S]
      have z0:∀ j,C.frozen? ⟨fb,j,none⟩=false:=fun j=>by simp[World.frozen?,S]
      have M:=ae (B.out.aside Bg Bf Bl S (.string N.1.name) (.int .i64 N.1.kind) (.int .i64 0) (.string N.1.text) (.slice none 0 0) (.slice none 0 0));have BV:=ae (LBx.six (W:=C) (b:=fb) S (.string N.1.name) (.int .i64 N.1.kind) (.int .i64 0) (.string N.1.text) (.slice none 0 0) (.slice none 0 0));clear S;refine aj (i:=19) rfl (by as_aux_lemma=>kernel_rfl) (fun K d=>?_);go_simp;refine d.out _ _ (fun h=>absurd rfl h) ?_;clear d K A
      (try simp only[Act.put,nzL])
      refine aP (by as_aux_lemma=>kernel_rfl) ?_ _;clear q0 q1 Cc Cl q4 q5 z0 B zH;go_wp2;go_roundg (D.length - 1 - k2);case measure=>omega
      case rel=>exact⟨k2+1,q3,N.1.name,N.1.text,N.1.kind,by omega,by omega,by go_num,AN.nm,AN.tx,M.out,BV.out⟩
    | false =>
     have S:=FB.out;have lf:=au S;have e0:wc.cell? ⟨fb,0,none⟩=some (.string nm):=by simp[World.cell?,S]
     have e1:wc.cell? ⟨fb,1,none⟩=some (.int .i64 kd):=by simp[World.cell?,S]
     have e2:wc.cell? ⟨fb,2,none⟩=some (.int .i64 0):=by simp[World.cell?,S]
     have e3:wc.cell? ⟨fb,3,none⟩=some (.string tx):=by simp[World.cell?,S]
     have e4:wc.cell? ⟨fb,4,none⟩=some (.slice none 0 0):=by simp[World.cell?,S]
     have e5:wc.cell? ⟨fb,5,none⟩=some (.slice none 0 0):=by simp[World.cell?,S]
     clear S;have bx:=l.out.box.1;have lx:=l.out.lt;have Co:=l.out.hX;obtain⟨Aa,hj,bt,n9,zT⟩:=info_parts fH;have A4:=ae ((q9 wc).alloc ly (.cells #[.string nm,.int .i64 kd,.int .i64 0,.string tx,.slice none 0 0,.slice none 0 0] 67));have O4:Hid ((wc.alloc (.cells #[.string nm,.int .i64 kd,.int .i64 0,.string tx,.slice none 0 0,.slice none 0 0] 67)).ownsRow (w.heap.size+2) 67 6 (.slice (some ⟨wc.heap.size,0,none⟩) 1 1) 1 [.string nm,.int .i64 kd,.int .i64 0,.string tx,.slice none 0 0,.slice none 0 0]):=ie (cs:=#[.string nm,.int .i64 kd,.int .i64 0,.string tx,.slice none 0 0,.slice none 0 0]) (by omega) (by unfold maxLen;omega) rfl;have B:=ae (l.out.below A4.out);have Br:=B.out.box.1;have Cp:=B.out.box.2;go_wp2_with (at_builtin;refine wpList_append_own _ rfl (.tmp 71) (.tmp 73) 57 rfl (w.heap.size+2) 67 Aa (.agg #[.string ⟨#[]⟩,.int .i64 0,.int .i64 0,.string ⟨#[]⟩,.slice none 0 0,.slice none 0 0]) 6 96 Tryz.underlying57 hj bt n9 zT rfl (by decide) (.slice (some ⟨wc.heap.size,0,none⟩) 1 1) 1 [.string nm,.int .i64 kd,.int .i64 0,.string tx,.slice none 0 0,.slice none 0 0] (by simp[Act.eval]) O4.out ⟨g,0,none⟩ D.length c1 (D.flatMap ddV) (by simp[Act.eval]) (eh ddV 6 (fun _=>rfl) D) (fun j u hu=>B.out.row.own.cells (g:=g) rfl j u hu) (nf D n8.out) (by unfold maxLen;omega) (by omega) (by simp;omega) ?_;intro v5 w5 zN zS Bn;obtain⟨g5,c5,rfl⟩:=dm zN (by omega);have B5:=ae (bg A4.out zS (by simp) (fun j e=>by simp[Value.ownBlock] at e;omega));have O5:=ae zN;have M:=ae (l.out.below B5.out);obtain⟨BR,Cb⟩:=M.out.box;have Cn:=M.out.lt;clear zN zS Bn);obtain⟨D3,ro⟩:∃ D3,D3=jy nm tx kd :: D:=⟨_,rfl⟩
     have Au:D3.length=1+D.length:=by rw[ro,List.length_cons];omega
     have zV:w5.ownsRow (w.heap.size+2) 67 6 (.slice (some ⟨g5,0,none⟩) D3.length c5) D3.length (D3.flatMap ddV):=by rw[Au,ro,List.flatMap_cons];exact O5.out
     have P:=ae (l.out.box_ B5.out zV (fun r6 h6=>by
      rw[ro] at h6;rcases List.mem_cons.1 h6 with rfl | h6
      ·exact xg _ _ _ _ _
      ·exact M.out.row.sub r6 h6) (fun r6 h6=>by
      rw[ro] at h6;rcases List.mem_cons.1 h6 with rfl | h6
      ·exact qj kd AO Ap
      ·exact M.out.fit r6 h6) (by omega))
     have UP:Hid ((D3.map (·.2.2)).Pairwise Apt):=by rw[ro];exact yU Bc.out nm tx kd
     have hn3:D3.length<=901:=by omega
     rw[<-Au];generalize w5.setCell ⟨X,0,none⟩ (.slice (some ⟨g5,0,none⟩) D3.length c5)=v6 at P ⊢;clear zV ro Au O5 B5 M B A4 O4 l FB BR Cb Cn Br Cp bx lx e0 e1 e2 e3 e4 e5;go_loopg [11,12] D3.length (fun gh i _ wr=>∃ (k3:Nat) (D4:List DR),k3+gh=D3.length/\i=.int .i64 k3/\Hid (D4.length=D3.length)/\Hid (D4.map (·.2)=D3.map (·.2))/\Hid (SpS w R X wr q3 (some ⟨g5,0,none⟩) c5 D4));case atStart=>exact⟨0,D3,by omega,rfl,rfl,rfl,P.out⟩
     case round =>
      clear P;obtain⟨k3,D4,hg3,rfl,ur,AZ,S7⟩:=hrel;have Ci:D4.length<=901:=by have:=ur.out;omega
      have hwk3:IntKind.i64.wrap ((k3:Int)+1)=(k3:Int)+1:=by rw[IntKind.wrap_i64];have:=ur.out;omega
      have BK:=S7.out.box.1;by_cases Am:(k3:Int)<(D4.length:Int)
      ·obtain⟨r4,AJ,AR⟩:=dI (R:=D4) (i:=k3) (by omega)
       have BP:=ae AJ;have hln4:=(S7.out.fit r4 AR).ln;clear AJ AR;go_wp2_with fail;clear BK;go_loopg [12] r4.1.linksN (fun gh j wr=>∃ (j3:Nat) (D5:List DR) (Y:DR),j3+gh=r4.1.linksN/\j=.int .i64 j3/\Hid (D5.length=D4.length)/\Hid (D5.map (·.2)=D4.map (·.2))/\Hid (D5[k3]?=some Y)/\Hid (Y.1.linksN=r4.1.linksN)/\Hid (SpS w R X wr q3 (some ⟨g5,0,none⟩) c5 D5));case atStart=>exact⟨0,D4,r4,by omega,rfl,rfl,rfl,BP.out,rfl,S7.out⟩
       case round =>
        clear S7;obtain⟨j3,D5,Y,hg5,rfl,zW,zX,qr,fd,S8⟩:=hrel;have Cw:k3<D5.length:=by have:=zW.out;omega
        have Bk:=List.mem_of_getElem? qr.out;have At:=ae Bk;clear Bk;have hln5:Y.1.linksN<=300:=by have:=fd.out;omega
        have hwj3:IntKind.i64.wrap ((j3:Int)+1)=(j3:Int)+1:=by rw[IntKind.wrap_i64];have:=fd.out;omega
        obtain⟨al,cl,el⟩:=ja (S8.out.row.sub Y At.out).lnk;have EL:=ae el;have BJ:=S8.out.box.1;have Cd:_=some (Value.slice al Y.1.linksN cl):=(S8.out.at_ (j:=5) qr.out (by omega) (by rw[<-el];rfl)).1;clear el;by_cases hjl:(j3:Int)<(Y.1.linksN:Int)
        ·have Ae:j3<Y.1.linksN:=by omega
         obtain⟨I,Cu,e2⟩:=dm (S8.out.row.sub Y At.out).lnk (by omega);rw[EL.out] at e2;obtain⟨rfl,-,-⟩:=Value.slice.inj e2;clear e2 Cu;have OL:Hid (∀ V q,SpS w R X V q (some ⟨g5,0,none⟩) c5 D5->V.ownsRow (w.heap.size+2) 73 4 (.slice (some ⟨I,0,none⟩) Y.1.linksN cl) Y.1.linksN (bJ Y.1.links Y.1.linksN)):=fun V q hV=>by rw[<-EL.out];exact(hV.row.sub Y At.out).lnk
         have ak:=(cA (j:=1) (OL.out _ _ S8.out) Ae (by omega) rfl).1;cases hask:(Y.1.links j3).ask with
         | false =>
          rw[hask] at ak;clear hask;go_wp2;go_roundg (r4.1.linksN - 1 - j3);case measure=>have:=fd.out;omega
          case rel=>exact⟨j3+1,D5,Y,by have:=fd.out;omega,by go_num,zW.out,zX.out,qr.out,fd.out,S8.out⟩
         | true =>
          rw[hask] at ak;clear hask;go_upto_region 21 with fail;clear BJ Cd ak;refine aJ (fun V=>V.cell? ⟨X,0,none⟩=some (.slice (some ⟨g5,0,none⟩) D5.length c5)/\V.cell? ⟨g5,k3*6+5,none⟩=some (.slice (some ⟨I,0,none⟩) Y.1.linksN cl)/\V.cell? ⟨I,j3*4+3,none⟩=some (.int .i64 (Y.1.links j3).at_)) 20 (by as_aux_lemma=>kernel_rfl) ?_;have S9:=ae (S8.out.below br.drew);clear S8;generalize wr.drew=v8 at S9 ⊢;have A:Hid (v8.cell? ⟨X,0,none⟩=some (.slice (some ⟨g5,0,none⟩) D5.length c5)/\v8.cell? ⟨g5,k3*6+5,none⟩=some (.slice (some ⟨I,0,none⟩) Y.1.linksN cl)/\v8.cell? ⟨I,j3*4+3,none⟩=some (.int .i64 (Y.1.links j3).at_)):=⟨S9.out.box.1,(S9.out.at_ (j:=5) qr.out (by omega) (by rw[<-EL.out];rfl)).1,(cA (j:=3) (OL.out _ _ S9.out) Ae (by omega) rfl).1⟩
          iterate 18
           refine aM 0 (v:=?_) rfl rfl (by as_aux_lemma=>kernel_rfl) (fun _ _ _ h=>h) rfl ?_ A.out ?_;rotate_left
           ·(intro wz aq;obtain⟨s0,s1,s2⟩:=aq;go_simp)
            (try with_reducible rfl)
           (try simp only[Act.put,nzL])
          generalize IntKind.i64.wrap ((Y.1.links j3).at_+1)=zz
          iterate 2
           refine cB 18 rfl rfl (by as_aux_lemma=>kernel_rfl) (fun K d=>?_);go_simp;refine d.out _ _ (fun _=>A.out) ?_;clear d K
           (try simp only[Act.put,nzL])
          have T:=A.out.2.2;have Z:=(cA (j:=3) (OL.out _ _ S9.out) Ae (by omega) rfl).2;have Ct:=((OL.out _ _ S9.out).lt I rfl).2;have Be:(D5.map (·.2.2)).Pairwise Apt:=by
           have e3:D5.map (·.2.2)=D3.map (·.2.2):=by have e4:=congrArg (List.map Prod.snd) (zX.out.trans AZ.out);rw[List.map_map,List.map_map] at e4;exact e4
           rw[e3];exact UP.out
          have Cg:=ae (S9.out.lnk Be qr.out EL.out Ae zz);clear Be;refine aj (i:=20) rfl (by as_aux_lemma=>kernel_rfl) (fun K d=>?_);go_simp;refine d.out _ _ (fun h=>absurd rfl h) ?_;clear d K A
          (try simp only[Act.put,nzL])
          refine aP (by as_aux_lemma=>kernel_rfl) ?_ _;clear T Z Ct S9;go_wp2;go_roundg (r4.1.linksN - 1 - j3);case measure=>have:=fd.out;omega
          case rel=>exact⟨j3+1,D5.set k3 (atD Y.1 j3 zz,Y.2),(atD Y.1 j3 zz,Y.2),by have:=fd.out;omega,by go_num,List.length_set.trans zW.out,(xf qr.out _).trans zX.out,List.getElem?_set_self Cw,fd.out,Cg.out⟩
        ·go_wp2
         go_roundg (D3.length - 1 - k3);case measure=>have:=ur.out;omega
         case rel=>exact⟨k3+1,D5,by have:=ur.out;omega,by go_num,zW.out.trans ur.out,zX.out.trans AZ.out,S8.out⟩
      ·go_wp2
       go_meet;exact⟨_,_,_,_,by omega,S7.out⟩
 case rest =>
 clear E;obtain⟨a',c',q',D',Cj,S9⟩:=hcut;have bx:=S9.out.box.1;have rs:=S9.out.rs;have r0:wc.cell? ⟨w.heap.size+1,0,none⟩=some (.slice none 0 0):=by simp[World.cell?,rs]
 have f0:wc.frozen? ⟨w.heap.size+1,0,none⟩=false:=by simp[World.frozen?,rs]
 have l0:=au rs;have FN:=ae (S9.out.fin Cj);clear rs;go_wp2;exact bp (v:=.agg #[.slice a' D'.length c']) (by simp[results,Tryz.results170,go_sem,r0]) rfl FN.out
end Go.Proofs.YtkophfgkcijjkaaGreatDoor.Vp
