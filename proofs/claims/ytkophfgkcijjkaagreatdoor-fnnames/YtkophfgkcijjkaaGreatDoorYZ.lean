import Derived.Test.YtkophfgkcijjkaaGreatDoorYW
import Derived.Test.YtkophfgkcijjkaaGreatDoorYX
import Derived.Deep.CutBlock
set_option maxRecDepth 100000
set_option maxHeartbeats 8000000
namespace Go.Proofs.YtkophfgkcijjkaaGreatDoor.Vp
open RowKit Ca
theorem yp {w:World}{c:Nat}{a0 a1:Option Addr}{c0 c1:Nat}{d:List Source}{b:List TR}(k:w.ownsRow c 100 2 (.slice a0 d.length c0) d.length (d.flatMap be))(l:TRow w c (.slice a1 b.length c1) b)(f:SpG d b)(h:d.length<=300)(j:b.length<=300):HSp c w a0 d.length (aO d) a1 b.length (ba (b.map (·.1)))/\∀ i,i<b.length->1<=(ba (b.map (·.1)) i).actN/\(ba (b.map (·.1)) i).actN<=200:=by
 refine⟨pQ k rfl l rfl h j (fun r g=>⟨by have:=(f.t r g).2.1.2;omega,(f.t r g).2.2⟩),fun i hi=>?_⟩;have e:ba (b.map (·.1)) i=b[i].1:=by simp[ba,hi]
 rw[e];exact(f.t _ (gz hi)).2.1
theorem iy (R p b0 n0 c0 n1 c1:Nat)(a0:Option Addr)(f0:Nat->Source)(a1:Option Addr)(f1:Nat->Target)(w:World)(hR:Rd w R p)(hp:p<=50000)(hb:R<b0)(hH:HSp b0 w a0 n0 f0 a1 n1 f1):Calls Tryz.prog 52 #[.pointer (some ⟨R,0,none⟩),.agg #[.slice a0 n0 c0,.slice a1 n1 c1]] w fun e Q=>∃ t:ByteArray,e=.returned (.string t)/\∃ q:Nat,q<=p+3/\Rd Q R q/\Only R w Q:=by
 have W:=ae hR;have hlow:=hR.lt;have hn1:=hH.hn1;have X:=ae hH;clear hR hH;have o:=ae ((q9 w).alloc ly (.cells #[.slice a0 n0 c0,.slice a1 n1 c1] 26));have E:Hid ((w.alloc (.cells #[.slice a0 n0 c0,.slice a1 n1 c1] 26)).heap[w.heap.size]?=some (.cells #[.slice a0 n0 c0,.slice a1 n1 c1] 26 (0,0))):=heap_alloc_new w _;have B:(w.alloc (.cells #[.slice a0 n0 c0,.slice a1 n1 c1] 26)).heap.size=w.heap.size+1:=by simp
 by_cases hn:0<(n1:Int)
 ·go_enter Tryz.func52,Tryz.ntmps52
  go_wp2_with fail;generalize w.alloc (.cells #[.slice a0 n0 c0,.slice a1 n1 c1] 26)=m at o E B ⊢;have I:=ae (W.out.below o.out ly);have J:Hid (Only R w m):=Only.of_below o.out;refine(aA R p 8 _ I.out (by omega) (by omega) (by omega)).mono ?_;rintro e g ⟨z,rfl,hz0',hz1',M,H⟩;have T:=ae M;have S:=ae (J.out.trans H);have Y:=ae ((H.block w.heap.size (by omega) (by omega)).trans E.out);clear M H I J E o;have O:=Y.out;have N:g.cell? ⟨w.heap.size,1,none⟩=some (.slice a1 n1 c1):=by simp[World.cell?,O]
  have l1:=au O;clear O;by_cases hz:0<z
  ·go_wp2_with fail
   refine aJ (fun V=>V.cell? ⟨w.heap.size,1,none⟩=some (.slice a1 n1 c1)) 10 (by as_aux_lemma=>kernel_rfl) ?_;have C:Hid (g.drew.cell? ⟨w.heap.size,1,none⟩=some (.slice a1 n1 c1)):=N
   iterate 6
    refine aM 0 (v:=?_) rfl rfl (by as_aux_lemma=>kernel_rfl) (fun _ _ _ h=>h) rfl ?_ C.out ?_;rotate_left
    ·(intro wz s0;go_simp)
     (try with_reducible rfl)
    (try simp only[Act.put,nzL])
   refine aj (i:=6) rfl (by as_aux_lemma=>kernel_rfl) (fun K G=>?_);go_simp;go_at_call 51;refine(aA R _ (n1:Int) _ (T.out.below br.drew ly) (by omega) (by omega) (by omega)).mono ?_;rintro e D ⟨z3,rfl,n,L,c,b⟩;obtain⟨j,rfl⟩:=Int.eq_ofNat_of_zero_le n;have U:Hid (Only R g D):=(Only.of_below br.drew).trans b;have A:=ae c;have y:=ae (S.out.trans U.out);have k:j<n1:=by omega
   clear c b C;have C:Hid (D.cell? ⟨w.heap.size,1,none⟩=some (.slice a1 n1 c1)):=(U.out.cell w.heap.size 1 l1 (by omega)).trans N;rcases(X.out.sl D (y.out.agr hb)).2 with h0 | ⟨tb,tof,rfl,u⟩
   ·omega
   have kn:=(u.2 j k).1;have hl:=u.1;clear u N;refine G.out _ _ (fun _=>C.out) ?_;clear G K
   (try simp only[Act.put,nzL])
   iterate 4
    refine cB 7 rfl rfl (by as_aux_lemma=>kernel_rfl) (fun K G=>?_);go_simp;refine G.out _ _ (fun _=>C.out) ?_;clear G K
    (try simp only[Act.put,nzL])
   refine aP (by as_aux_lemma=>kernel_rfl) ?_ _;go_wp2;go_ret;exact⟨_,rfl,_,by omega,A.out,y.out⟩
  ·go_wp2_with fail
   have s:=ae ((q9 g).alloc ly (.cells #[.string ⟨#[97]⟩,.string ⟨#[110,111,110,101]⟩,.string ⟨#[]⟩,.string ⟨#[120,32,121]⟩,.string ⟨#[116,48]⟩] 9));have r:=ae (T.out.below s.out ly);have x:=ae (S.out.then (s.out.mono (by omega)));have f:(g.alloc (.cells #[.string ⟨#[97]⟩,.string ⟨#[110,111,110,101]⟩,.string ⟨#[]⟩,.string ⟨#[120,32,121]⟩,.string ⟨#[116,48]⟩] 9)).heap[g.heap.size]?=some (.cells #[.string ⟨#[97]⟩,.string ⟨#[110,111,110,101]⟩,.string ⟨#[]⟩,.string ⟨#[120,32,121]⟩,.string ⟨#[116,48]⟩] 9 (0,0)):=heap_alloc_new g _;have l:=au f;have d:=ae f;clear s f;generalize g.alloc (.cells #[.string ⟨#[97]⟩,.string ⟨#[110,111,110,101]⟩,.string ⟨#[]⟩,.string ⟨#[120,32,121]⟩,.string ⟨#[116,48]⟩] 9)=Z at r x d l ⊢;refine(aA R _ 5 _ r.out (by omega) (by omega) (by omega)).mono ?_;rintro e D ⟨z3,rfl,n,L,c,b⟩;obtain⟨j,rfl⟩:=Int.eq_ofNat_of_zero_le n;have k:j<5:=by omega
   have A:=ae c;have y:=ae (x.out.trans b);obtain⟨sx,P⟩:=rY ((b.block (g.heap.size) l (by omega)).trans d.out) j k;clear c b d r x;go_wp2;go_ret;exact⟨sx,rfl,_,by omega,A.out,y.out⟩
 ·go_enter Tryz.func52,Tryz.ntmps52
  go_wp2_with fail;generalize w.alloc (.cells #[.slice a0 n0 c0,.slice a1 n1 c1] 26)=m at o E B ⊢;have I:=ae (W.out.below o.out ly);have J:Hid (Only R w m):=Only.of_below o.out;have l0:=au E.out;have s:=ae ((q9 m).alloc ly (.cells #[.string ⟨#[97]⟩,.string ⟨#[110,111,110,101]⟩,.string ⟨#[]⟩,.string ⟨#[120,32,121]⟩,.string ⟨#[116,48]⟩] 9));have r:=ae (I.out.below s.out ly);have x:=ae (J.out.then (s.out.mono (by omega)));have f:(m.alloc (.cells #[.string ⟨#[97]⟩,.string ⟨#[110,111,110,101]⟩,.string ⟨#[]⟩,.string ⟨#[120,32,121]⟩,.string ⟨#[116,48]⟩] 9)).heap[w.heap.size+1]?=some (.cells #[.string ⟨#[97]⟩,.string ⟨#[110,111,110,101]⟩,.string ⟨#[]⟩,.string ⟨#[120,32,121]⟩,.string ⟨#[116,48]⟩] 9 (0,0)):=(by rw[<-B];exact heap_alloc_new m _)
  have l:=au f;have d:=ae f;clear s f;generalize m.alloc (.cells #[.string ⟨#[97]⟩,.string ⟨#[110,111,110,101]⟩,.string ⟨#[]⟩,.string ⟨#[120,32,121]⟩,.string ⟨#[116,48]⟩] 9)=Z at r x d l ⊢;refine(aA R _ 5 _ r.out (by omega) (by omega) (by omega)).mono ?_;rintro e D ⟨z3,rfl,n,L,c,b⟩;obtain⟨j,rfl⟩:=Int.eq_ofNat_of_zero_le n;have k:j<5:=by omega
  have A:=ae c;have y:=ae (x.out.trans b);obtain⟨sx,P⟩:=rY ((b.block (w.heap.size+1) l (by omega)).trans d.out) j k;clear c b d r x;go_wp2;go_ret;exact⟨sx,rfl,_,by omega,A.out,y.out⟩
end Go.Proofs.YtkophfgkcijjkaaGreatDoor.Vp
