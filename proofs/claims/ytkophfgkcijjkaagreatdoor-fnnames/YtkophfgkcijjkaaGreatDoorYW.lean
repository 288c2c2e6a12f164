import Derived.Test.YtkophfgkcijjkaaGreatDoorYU
import Derived.Test.YtkophfgkcijjkaaGreatDoorZA
set_option maxRecDepth 100000
set_option maxHeartbeats 8000000
namespace Go.Proofs.YtkophfgkcijjkaaGreatDoor.Vp
open RowKit Ca
def DF (w:World)(e:Ending)(b:World):Prop:=∃ (a0:Option Addr) (n0 c0:Nat) (f0:Nat->Source) (a1:Option Addr) (n1 c1:Nat) (f1:Nat->Target),e=.returned (.agg #[.slice a0 n0 c0,.slice a1 n1 c1])/\HSp w.heap.size b a0 n0 f0 a1 n1 f1/\Below w.heap.size w b
def DFn (n:Nat)(w:World)(e:Ending)(c:World):Prop:=∃ (a0:Option Addr) (n0 c0:Nat) (f0:Nat->Source) (a1:Option Addr) (c1:Nat) (b:List TR),e=.returned (.agg #[.slice a0 n0 c0,.slice a1 b.length c1])/\b.length=n/\HSp w.heap.size c a0 n0 f0 a1 b.length (ba (b.map (·.1)))/\TRow c (w.heap.size+1) (.slice a1 b.length c1) b/\GX b/\(∀ r∈b,r.1.name.size<=5000)/\Below w.heap.size w c
theorem kM (n:Nat)(hn:n<=200)(I:ByteArray)(he:I.size<=5000)(w:World):Calls Tryz.prog 123 #[.int .i64 n,.string I] w fun e w'=>DFn n w e w':=by
 obtain⟨mv,l,n9,th,sm⟩:=info_parts ft;have ld:(w.alloc (.cells #[.slice none 0 0,.slice none 0 0] 26)).heap.size=w.heap.size+1:=by simp
 have n8:((w.alloc (.cells #[.slice none 0 0,.slice none 0 0] 26)).alloc (.cells #[.string ⟨#[97]⟩,.string ⟨#[103,114,111,117,110,100]⟩] 100)).heap.size=w.heap.size+1+1:=by simp
 have A0:=ae (((((q9 w).alloc ly (.cells #[.slice none 0 0,.slice none 0 0] 26))).alloc (by omega) (.cells #[.string ⟨#[97]⟩,.string ⟨#[103,114,111,117,110,100]⟩] 100)).alloc (by omega) (.cells #[.slice (some ⟨w.heap.size+1,0,none⟩) 1 1,.slice none 0 0] 26));have X1:Hid (SpX w.heap.size (w.heap.size+1+1) (w.heap.size+1) (((w.alloc (.cells #[.slice none 0 0,.slice none 0 0] 26)).alloc (.cells #[.string ⟨#[97]⟩,.string ⟨#[103,114,111,117,110,100]⟩] 100)).alloc (.cells #[.slice (some ⟨w.heap.size+1,0,none⟩) 1 1,.slice none 0 0] 26)) (.slice (some ⟨w.heap.size+1,0,none⟩) 1 1) (.slice none 0 0) [⟨⟨#[97]⟩,⟨#[103,114,111,117,110,100]⟩⟩] []):=by have k1:=heap_alloc_new w (.cells #[.slice none 0 0,.slice none 0 0] 26);have k2:=heap_alloc_new (w.alloc (.cells #[.slice none 0 0,.slice none 0 0] 26)) (.cells #[.string ⟨#[97]⟩,.string ⟨#[103,114,111,117,110,100]⟩] 100);rw[ld] at k2;have BQ:=(Below.refl (w.heap.size+1) (w.alloc (.cells #[.slice none 0 0,.slice none 0 0] 26))).alloc (by omega) (.cells #[.string ⟨#[97]⟩,.string ⟨#[103,114,111,117,110,100]⟩] 100);have h:=rX (LS:=[⟨⟨#[97]⟩,⟨#[103,114,111,117,110,100]⟩⟩]) (base:=w.heap.size+1) (base':=w.heap.size+1) ((BQ.block w.heap.size (Nat.lt_succ_self _)).trans k1) (Nat.lt_succ_self _) ly (by omega) (v0:=.slice (some ⟨w.heap.size+1,0,none⟩) 1 1) ⟨rfl,.inr ⟨w.heap.size+1,1,_,rfl,Nat.le_refl _,k2,Nat.le_refl _,by unfold maxLen;omega,rfl,rfl⟩⟩ (cL _ _);rw[n8] at h;exact h
 have hw2:IntKind.i64.wrap ((n:Int) - 1)=(n:Int) - 1:=by rw[IntKind.wrap_i64];omega
 clear ld n8;go_enter Tryz.func123,Tryz.ntmps123;go_wp2_with fail;generalize ((w.alloc (.cells #[.slice none 0 0,.slice none 0 0] 26)).alloc (.cells #[.string ⟨#[97]⟩,.string ⟨#[103,114,111,117,110,100]⟩] 100)).alloc (.cells #[.slice (some ⟨w.heap.size+1,0,none⟩) 1 1,.slice none 0 0] 26)=W2 at X1 A0 ⊢;obtain⟨B,E,c2,zI,qr⟩:∃ (B:List Source) (E:Option Addr) (c2:Nat),B.length<=300/\Hid (SpX w.heap.size (w.heap.size+1+1) (w.heap.size+1) W2 (.slice E B.length c2) (.slice none 0 0) B []):=⟨[⟨⟨#[97]⟩,⟨#[103,114,111,117,110,100]⟩⟩],some ⟨w.heap.size+1,0,none⟩,1,by show 1<=300;omega,X1.out⟩
 clear X1;generalize zG:w.heap.size+1+1=D at qr ⊢;clear zG;go_loopw [6] (fun i wr=>∃ (k:Nat) (v1:Value) (d:List TR),i=.int .i64 k/\k<=n/\d.length=k/\Hid (SpX w.heap.size D (w.heap.size+1) wr (.slice E B.length c2) v1 B d)/\Hid (GX d)/\Hid (∀ r∈d,r.1.name.size<=5000)/\Hid (Below w.heap.size w wr)) (fun i _=>n - (intOf i).toNat);case atStart=>exact⟨0,_,[],rfl,by omega,rfl,qr.out,fun _ h=>absurd h nj,fun _ h=>absurd h nj,A0.out⟩
 case round =>
  obtain⟨k,v1,d,rfl,hk,ro,X,G2,N2,B2⟩:=hrel;have HK:Hid (d.length=k):=ro;obtain⟨y,c5,rfl⟩:=aL X.out.tgt.own;obtain⟨la,Z⟩:=X.out.cells;have zD:=X.out.lt;have hrn:d.length<=200:=by omega
  clear ro;by_cases hlt:k<n
  ·have hwk:IntKind.i64.wrap ((k:Int)+1)=(k:Int)+1:=by rw[IntKind.wrap_i64];omega
   go_wp2_with fail;refine(iB (k+1) (by omega) _).mono ?_;rintro e t ⟨T,rfl,hnb,ex⟩;have s:=ae (X.out.below ex ly);have B3:=ae (B2.out.trans (ex.mono B2.out.size));obtain⟨la,Z⟩:=s.out.cells;have zD:=s.out.lt;clear ex;by_cases aq:(n:Int) - 1=(k:Int)
   ·go_wp2_with fail
    clear aq;clear la Z;have q:Hid (∀ V:World,(∀ j,j<t.heap.size->some j≠(Value.slice y d.length c5).ownBlock->V.heap[j]?=t.heap[j]?)->V.heap[D]?=some (.cells #[.slice E B.length c2,.slice y d.length c5] 26 (0,0))/\V.cell? ⟨D,1,none⟩=some (.slice y d.length c5)):=fun V hV=>by
     have h1:=(hV D s.out.lt fun e=>by
      obtain⟨zH,U⟩:=s.out.tgt.type _ e.symm;have h3:=s.out.box.symm.trans U
      cases h3).trans s.out.box
     exact⟨h1,by simp[World.cell?,h1]⟩
    refine aJ (fun V=>V.heap[D]?=some (.cells #[.slice E B.length c2,.slice y d.length c5] 26 (0,0))/\V.cell? ⟨D,1,none⟩=some (.slice y d.length c5)) 14 (by as_aux_lemma=>kernel_rfl) ?_;have f:=ae (q.out t.drew (fun j l _=>rfl))
    iterate 3
     refine aM 0 (v:=?_) rfl rfl (by as_aux_lemma=>kernel_rfl) (fun _ _ _ h=>h) rfl ?_ f.out ?_;rotate_left
     ·(intro wz G;obtain⟨s0,s1⟩:=G;go_simp)
      (try with_reducible rfl)
     (try simp only[Act.put,nzL])
    refine aM 4 (v:=?_) rfl rfl (by as_aux_lemma=>kernel_rfl) (fun _ _ _ h=>h) rfl ?_ f.out ?_;rotate_left
    ·(intro wz G;obtain⟨s0,s1⟩:=G;go_simp)
     (try with_reducible rfl)
    (try simp only[Act.put,nzL])
    refine aj (i:=3) rfl (by as_aux_lemma=>kernel_rfl) (fun K b=>?_);go_simp;go_at_call 127;refine(iB k (by omega) _).mono ?_;rintro e wl ⟨C,rfl,zJ,R⟩;have N:Hid (Below t.heap.size t wl):=(q9 t).drew.trans R;clear R f;have f:=ae (q.out wl (fun j l _=>N.out.block j l));refine b.out _ _ (fun _=>f.out) ?_;clear b K
    (try simp only[Act.put,nzL])
    refine aj (i:=5) rfl (by as_aux_lemma=>kernel_rfl) (fun K b=>?_);go_simp;go_at_call 128;refine(aY _ _).mono ?_;rintro e wm ⟨rfl,Q⟩;have L:=ae (N.out.trans (Q.mono N.out.size));clear Q f;have f:=ae (q.out wm (fun j l _=>L.out.block j l));refine b.out _ _ (fun _=>f.out) ?_;clear b K
    (try simp only[Act.put,nzL])
    refine aj (i:=6) rfl (by as_aux_lemma=>kernel_rfl) (fun K b=>?_);go_simp;go_at_call 129;refine(aR _ _).mono ?_;rintro e wo ⟨rfl,O⟩;have M:=ae (L.out.trans (O.mono L.out.size));clear O f;have f:=ae (q.out wo (fun j l _=>M.out.block j l));refine b.out _ _ (fun _=>f.out) ?_;clear b K
    (try simp only[Act.put,nzL])
    refine aj (i:=7) rfl (by as_aux_lemma=>kernel_rfl) (fun K b=>?_);go_simp;go_at_call 129;refine(aR _ _).mono ?_;rintro e m ⟨rfl,P⟩;have Y:=ae (M.out.trans (P.mono M.out.size));clear P f N L M;have zF:=Y.out.size;have BI:=ae (Y.out.alloc (by omega) (.cells #[.int .i64 1,.string I,.int .i64 0,.int .i64 12,.string ⟨#[]⟩,.int .i64 0,.int .i64 15,.string ⟨#[]⟩,.int .i64 0] 176));have ur:=s.out.hi;have OI:=ae (nV m I (base:=w.heap.size+1) (by omega));have f:=ae (q.out m (fun j l _=>Y.out.block j l));refine b.out _ _ (fun _=>f.out) ?_;clear b K f
    (try simp only[Act.put,nzL])
    have f:=ae (q.out _ (fun j l _=>BI.out.block j l))
    iterate 3
     refine cB 8 rfl rfl (by as_aux_lemma=>kernel_rfl) (fun K b=>?_);go_simp;refine b.out _ _ (fun _=>f.out) ?_;clear b K
     (try simp only[Act.put,nzL])
    have fd:(m.alloc (.cells #[.int .i64 1,.string I,.int .i64 0,.int .i64 12,.string ⟨#[]⟩,.int .i64 0,.int .i64 15,.string ⟨#[]⟩,.int .i64 0] 176)).heap.size=m.heap.size+1:=by simp
    have H:=ae (BI.out.alloc (by omega) (.cells #[.string C,.slice (some ⟨m.heap.size,0,none⟩) 3 3] 104));refine aj (i:=11) rfl (by as_aux_lemma=>kernel_rfl) (fun K b=>?_);go_simp;have J:=ae (s.out.below H.out ly);have OA:=ae (own_below OI.out (br.alloc ly (.cells #[.string C,.slice (some ⟨m.heap.size,0,none⟩) 3 3] 104)) ly);refine b.out _ _ (fun _=>q.out _ (fun j l _=>H.out.block j l)) ?_;clear b K
    (try simp only[Act.put,nzL])
    refine aj (i:=12) rfl (by as_aux_lemma=>kernel_rfl) (fun K b=>?_);refine bq rfl (.tmp 25) (.tmp 35) 24 rfl (w.heap.size+1) 104 mv (.agg #[.string ⟨#[]⟩,.slice none 0 0]) 2 40 Tryz.underlying24 l n9 th sm rfl (by decide) (.slice y d.length c5) d.length (d.flatMap aU) (by simp[Act.eval]) J.out.tgt.own ⟨m.heap.size+1,0,none⟩ 1 1 (aU (⟨C,3,lsI (ew I)⟩,m.heap.size,3)) (by simp[Act.eval]) rfl (fun j u hu=>pV (fd) _ _ _ j u hu) (by simp[aU,Value.oneCell']) (by unfold maxLen;omega) (by omega) (by have:=J.out.hi;have:=J.out.lt;omega) ?_;intro v' w7 A o _;obtain⟨a7,c7,rfl⟩:=aL A;have S:=ae (q.out w7 (fun j l bt=>(o.block j (lj l H.out.size) bt).trans (H.out.block j l)));obtain⟨c8,b8⟩:=J.out.addT (x:=⟨C,3,lsI (ew I)⟩) (g:=m.heap.size) (c:=3) (fun r z e=>by have:=s.out.tgt.ltg r z;omega) OA.out A o;have X9:=ae c8;have B9:=ae b8;clear A o c8 b8;refine b.out _ _ (fun _=>S.out) ?_;clear b K
    (try simp only[Act.put,nzL])
    refine aj (i:=13) rfl (by as_aux_lemma=>kernel_rfl) (fun K b=>?_);go_simp;refine b.out _ _ (fun _=>S.out) ?_;clear b K
    (try simp only[Act.put,nzL])
    obtain⟨W,t7⟩:=S.out;have f7:w7.frozen? ⟨D,1,none⟩=false:=by simp[World.frozen?,W]
    have l7:=au W;clear W;refine aj (i:=14) rfl (by as_aux_lemma=>kernel_rfl) (fun K b=>?_);go_simp;refine b.out _ _ (fun h=>absurd rfl h) ?_;clear b K
    (try simp only[Act.put,nzL])
    refine aP (by as_aux_lemma=>kernel_rfl) ?_ _;go_wp2;have BB:=ae ((H.out.mono (show w.heap.size+1<=t.heap.size by omega)).trans B9.out)
    refine⟨⟨k+1,.slice a7 (d.length+1) c7,d++[((⟨C,3,lsI (ew I)⟩,m.heap.size,3):TR)],by go_num,by omega,by rw[List.length_append,HK.out];rfl,X9.out,G2.out.add (r:=(⟨C,3,lsI (ew I)⟩,m.heap.size,3)) (by show 3<=300;omega) (mr (by omega)),(fun r z=>by
     rcases List.mem_append.1 z with z | z
     ·exact N2.out r z
     ·rw[List.mem_singleton.1 z];show C.size<=5000;omega),B3.out.trans (BB.out.mono (by omega))⟩,by simp[intOf];omega⟩
   ·have zE:¬ (k:Int)=(n:Int) - 1:=fun e=>aq e.symm
    clear aq;go_wp2_with fail;clear zE;clear la Z;have q:Hid (∀ V:World,(∀ j,j<t.heap.size->some j≠(Value.slice y d.length c5).ownBlock->V.heap[j]?=t.heap[j]?)->V.heap[D]?=some (.cells #[.slice E B.length c2,.slice y d.length c5] 26 (0,0))/\V.cell? ⟨D,1,none⟩=some (.slice y d.length c5)):=fun V hV=>by
     have h1:=(hV D s.out.lt fun e=>by
      obtain⟨zH,U⟩:=s.out.tgt.type _ e.symm;have h3:=s.out.box.symm.trans U
      cases h3).trans s.out.box
     exact⟨h1,by simp[World.cell?,h1]⟩
    refine aJ (fun V=>V.heap[D]?=some (.cells #[.slice E B.length c2,.slice y d.length c5] 26 (0,0))/\V.cell? ⟨D,1,none⟩=some (.slice y d.length c5)) 14 (by as_aux_lemma=>kernel_rfl) ?_;have f:=ae (q.out t.drew (fun j l _=>rfl))
    iterate 3
     refine aM 0 (v:=?_) rfl rfl (by as_aux_lemma=>kernel_rfl) (fun _ _ _ h=>h) rfl ?_ f.out ?_;rotate_left
     ·(intro wz G;obtain⟨s0,s1⟩:=G;go_simp)
      (try with_reducible rfl)
     (try simp only[Act.put,nzL])
    refine aM 4 (v:=?_) rfl rfl (by as_aux_lemma=>kernel_rfl) (fun _ _ _ h=>h) rfl ?_ f.out ?_;rotate_left
    ·(intro wz G;obtain⟨s0,s1⟩:=G;go_simp)
     (try with_reducible rfl)
    (try simp only[Act.put,nzL])
    refine aj (i:=3) rfl (by as_aux_lemma=>kernel_rfl) (fun K b=>?_);go_simp;go_at_call 127;refine(iB k (by omega) _).mono ?_;rintro e wl ⟨C,rfl,zJ,R⟩;have N:Hid (Below t.heap.size t wl):=(q9 t).drew.trans R;clear R f;have f:=ae (q.out wl (fun j l _=>N.out.block j l));refine b.out _ _ (fun _=>f.out) ?_;clear b K
    (try simp only[Act.put,nzL])
    refine aj (i:=5) rfl (by as_aux_lemma=>kernel_rfl) (fun K b=>?_);go_simp;go_at_call 128;refine(aY _ _).mono ?_;rintro e wm ⟨rfl,Q⟩;have L:=ae (N.out.trans (Q.mono N.out.size));clear Q f;have f:=ae (q.out wm (fun j l _=>L.out.block j l));refine b.out _ _ (fun _=>f.out) ?_;clear b K
    (try simp only[Act.put,nzL])
    refine aj (i:=6) rfl (by as_aux_lemma=>kernel_rfl) (fun K b=>?_);go_simp;go_at_call 129;refine(aR _ _).mono ?_;rintro e wo ⟨rfl,O⟩;have M:=ae (L.out.trans (O.mono L.out.size));clear O f;have f:=ae (q.out wo (fun j l _=>M.out.block j l));refine b.out _ _ (fun _=>f.out) ?_;clear b K
    (try simp only[Act.put,nzL])
    refine aj (i:=7) rfl (by as_aux_lemma=>kernel_rfl) (fun K b=>?_);go_simp;go_at_call 129;refine(aR _ _).mono ?_;rintro e m ⟨rfl,P⟩;have Y:=ae (M.out.trans (P.mono M.out.size));clear P f N L M;have zF:=Y.out.size;have BI:=ae (Y.out.alloc (by omega) (.cells #[.int .i64 1,.string T,.int .i64 0,.int .i64 12,.string ⟨#[]⟩,.int .i64 0,.int .i64 15,.string ⟨#[]⟩,.int .i64 0] 176));have ur:=s.out.hi;have OI:=ae (nV m T (base:=w.heap.size+1) (by omega));have f:=ae (q.out m (fun j l _=>Y.out.block j l));refine b.out _ _ (fun _=>f.out) ?_;clear b K f
    (try simp only[Act.put,nzL])
    have f:=ae (q.out _ (fun j l _=>BI.out.block j l))
    iterate 3
     refine cB 8 rfl rfl (by as_aux_lemma=>kernel_rfl) (fun K b=>?_);go_simp;refine b.out _ _ (fun _=>f.out) ?_;clear b K
     (try simp only[Act.put,nzL])
    have fd:(m.alloc (.cells #[.int .i64 1,.string T,.int .i64 0,.int .i64 12,.string ⟨#[]⟩,.int .i64 0,.int .i64 15,.string ⟨#[]⟩,.int .i64 0] 176)).heap.size=m.heap.size+1:=by simp
    have H:=ae (BI.out.alloc (by omega) (.cells #[.string C,.slice (some ⟨m.heap.size,0,none⟩) 3 3] 104));refine aj (i:=11) rfl (by as_aux_lemma=>kernel_rfl) (fun K b=>?_);go_simp;have J:=ae (s.out.below H.out ly);have OA:=ae (own_below OI.out (br.alloc ly (.cells #[.string C,.slice (some ⟨m.heap.size,0,none⟩) 3 3] 104)) ly);refine b.out _ _ (fun _=>q.out _ (fun j l _=>H.out.block j l)) ?_;clear b K
    (try simp only[Act.put,nzL])
    refine aj (i:=12) rfl (by as_aux_lemma=>kernel_rfl) (fun K b=>?_);refine bq rfl (.tmp 25) (.tmp 35) 24 rfl (w.heap.size+1) 104 mv (.agg #[.string ⟨#[]⟩,.slice none 0 0]) 2 40 Tryz.underlying24 l n9 th sm rfl (by decide) (.slice y d.length c5) d.length (d.flatMap aU) (by simp[Act.eval]) J.out.tgt.own ⟨m.heap.size+1,0,none⟩ 1 1 (aU (⟨C,3,lsI (ew T)⟩,m.heap.size,3)) (by simp[Act.eval]) rfl (fun j u hu=>pV (fd) _ _ _ j u hu) (by simp[aU,Value.oneCell']) (by unfold maxLen;omega) (by omega) (by have:=J.out.hi;have:=J.out.lt;omega) ?_;intro v' w7 A o _;obtain⟨a7,c7,rfl⟩:=aL A;have S:=ae (q.out w7 (fun j l bt=>(o.block j (lj l H.out.size) bt).trans (H.out.block j l)));obtain⟨c8,b8⟩:=J.out.addT (x:=⟨C,3,lsI (ew T)⟩) (g:=m.heap.size) (c:=3) (fun r z e=>by have:=s.out.tgt.ltg r z;omega) OA.out A o;have X9:=ae c8;have B9:=ae b8;clear A o c8 b8;refine b.out _ _ (fun _=>S.out) ?_;clear b K
    (try simp only[Act.put,nzL])
    refine aj (i:=13) rfl (by as_aux_lemma=>kernel_rfl) (fun K b=>?_);go_simp;refine b.out _ _ (fun _=>S.out) ?_;clear b K
    (try simp only[Act.put,nzL])
    obtain⟨W,t7⟩:=S.out;have f7:w7.frozen? ⟨D,1,none⟩=false:=by simp[World.frozen?,W]
    have l7:=au W;clear W;refine aj (i:=14) rfl (by as_aux_lemma=>kernel_rfl) (fun K b=>?_);go_simp;refine b.out _ _ (fun h=>absurd rfl h) ?_;clear b K
    (try simp only[Act.put,nzL])
    refine aP (by as_aux_lemma=>kernel_rfl) ?_ _;go_wp2;have BB:=ae ((H.out.mono (show w.heap.size+1<=t.heap.size by omega)).trans B9.out)
    refine⟨⟨k+1,.slice a7 (d.length+1) c7,d++[((⟨C,3,lsI (ew T)⟩,m.heap.size,3):TR)],by go_num,by omega,by rw[List.length_append,HK.out];rfl,X9.out,G2.out.add (r:=(⟨C,3,lsI (ew T)⟩,m.heap.size,3)) (by show 3<=300;omega) (mr (by omega)),(fun r z=>by
     rcases List.mem_append.1 z with z | z
     ·exact N2.out r z
     ·rw[List.mem_singleton.1 z];show C.size<=5000;omega),B3.out.trans (BB.out.mono (by omega))⟩,by simp[intOf];omega⟩
  ·obtain rfl:k=n:=by omega
   have kr:=X.out.res;have r0:wr.cell? ⟨w.heap.size,0,none⟩=some (.slice none 0 0):=by simp[World.cell?,kr]
   have r1:wr.cell? ⟨w.heap.size,1,none⟩=some (.slice none 0 0):=by simp[World.cell?,kr]
   have f0:wr.frozen? ⟨w.heap.size,0,none⟩=false:=by simp[World.frozen?,kr]
   have f1:wr.frozen? ⟨w.heap.size,1,none⟩=false:=by simp[World.frozen?,kr]
   have l0:=au kr;clear kr;have BE:=ae ((B2.out.setCell (p:=⟨w.heap.size,0,none⟩) ly (.slice E B.length c2)).setCell (p:=⟨w.heap.size,1,none⟩) ly (.slice y d.length c5));have HE:=ae ((X.out.fin rfl rfl zI (by omega) G2.out (.slice E B.length c2) (.slice y d.length c5)).mono (Nat.le_succ w.heap.size));have TE:=ae ((X.out.tgt.set (j:=0) (Nat.lt_succ_self _) (.slice E B.length c2)).set (j:=1) (Nat.lt_succ_self _) (.slice y d.length c5));go_wp2;exact bp (v:=.agg #[.slice E B.length c2,.slice y d.length c5]) (by simp[results,Tryz.results123,go_sem,r0,r1]) rfl ⟨_,_,_,_,_,_,_,rfl,HK.out,HE.out,TE.out,G2.out,N2.out,BE.out⟩
theorem rq (n:Nat)(hn:n<=200)(b:ByteArray)(d:b.size<=5000)(w:World):Calls Tryz.prog 123 #[.int .i64 n,.string b] w fun e g=>DF w e g :=
 (kM n hn b d w).mono fun _ _ ⟨a0,n0,c0,f0,a1,c1,h,i,_,f,_,_,_,c⟩=>⟨a0,n0,c0,f0,a1,h.length,c1,_,i,f,c⟩
end Go.Proofs.YtkophfgkcijjkaaGreatDoor.Vp
