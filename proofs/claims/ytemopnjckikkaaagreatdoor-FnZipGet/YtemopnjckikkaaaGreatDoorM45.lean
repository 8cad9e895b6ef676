/- Texts. -/
import Derived.Test.YtemopnjckikkaaaGreatDoorM44
set_option linter.all false
set_option maxRecDepth 100000
set_option maxHeartbeats 6400000
namespace Go.Proofs.YtemopnjckikkaaaGreatDoor
open Go.Proofs.Tryz
open Go.RowKit Corb
def my(a b:Option Addr)(c d n:Nat)(l:List En)(w:World)(O:l.length=n)(L:kR w a l)(hb:kR w b l)(T:n<=1000) :
  CD 7 #[.slice a n c,.slice b n d] w (.bool true):=by
 have N:=cC
 have P:=af L;have Q:=af hb;have x:=af O;have U:(n:Int)<=1000:=by omega
 clear L hb O T;go_enter func7,ntmps7;go_wp2_with fail
 go_loopw [5] (fun i wr=>∃k:Nat,k<=n/\i = .int .i64 k/\Below w.heap.size w wr) (fun i _=>n-(intOf i).toNat)
 case atStart=>exact⟨0,a0f _,rfl,Below.refl _ _⟩
 case round=>
  obtain⟨k,S,rfl,m⟩:=hrel;by_cases s:k<n
  .
   have u:(k:Int)<(n:Int):=by omega
   have z:=af s;obtain⟨g,o,rfl,r,M⟩:=ae P (by rw[ae x];omega);obtain⟨g',o',rfl,f,t⟩:=ae Q (by rw[ae x];omega);obtain⟨c0,c1,c2,c3,c4,A,B,C⟩:=M k (by rw[ae x];exact s);obtain⟨D,E,F,G,H,I,J,K⟩:=t k (by rw[ae x];exact s);have q:∀(h j:Nat) (v:Value),h<w.heap.size->w.cell? ⟨h,j,none⟩=some v->wr.cell? ⟨h,j,none⟩=some v:=fun h j v R e=>(m.cell (p:=⟨h,j,none⟩) R).trans e
   replace c0:=q _ _ _ r c0
   replace c1:=q _ _ _ r c1
   replace c2:=q _ _ _ r c2
   replace c3:=q _ _ _ r c3
   replace c4:=q _ _ _ r c4
   replace A:=q _ _ _ r A
   replace B:=q _ _ _ r B
   replace C:=q _ _ _ r C
   replace D:=q _ _ _ f D
   replace E:=q _ _ _ f E
   replace F:=q _ _ _ f F
   replace G:=q _ _ _ f G
   replace H:=q _ _ _ f H
   replace I:=q _ _ _ f I
   replace J:=q _ _ _ f J
   replace K:=q _ _ _ f K
   have y:=af m;clear M t q m S s r f;generalize l.getD k default=en at *
   go_wp2_with fail
   go_quiet (fail)
   go_wp2_with fail;go_roundw
   case rel=>exact⟨k+1,by have:=ae z;omega,by go_num,below_drewN y _⟩
   case measure=>have:=ae z;simp[intOf];omega
  .
   have u:¬ (k:Int)<(n:Int):=by omega
   go_wp2;go_ret;exact⟨rfl,m⟩
def vZ(a:Option Addr)(len cap:Nat)(zs:List Int)(m:Int)(w:World)(w0:JU .u8 w a len cap zs)(hm:w.cell? ⟨2,0,none⟩=some (.int .i64 m))(hg:tu w)(hO:ef w) :
  CD 3 #[.slice a len cap] w (.bool true):=by
 obtain⟨⟨z,G⟩,hc,v⟩:=QP w0;have Q:=af (tU a len cap z w G hc v);have o:=af (fun W (hb:Below w.heap.size w W)=>a0b ((hb.cell (p:=⟨2,0,none⟩) (World.block_lt_of_cell? _ _ hm)).trans hm) (a0b (hg.later hb) (hO.later hb)));unfold maxLen at v;clear w0 G hm hg hO;by_cases hl:(len:Int)<=1048576
 .
  go_enter func3,ntmps3;go_wp2_with fail;refine Q.mono ?_;rintro e w1⟨⟨L0,S,rfl,Z,_,_⟩,V⟩;have j:=af V;clear V Q v hc;have T:=af Z;have M:=af (fun W (A:Below w.heap.size w W)=>mM S m W (by have:=ae T;omega) (o W A).1 (o W A).2.1 (o W A).2.2);have N:=af (fun W=>vG S W (by have:=ae T;omega));clear Z;rcases hz:gj S with _|l
  . rw[hz]at M N;clear hz;go_wp2_with fail;refine(M _ (ae j)).mono ?_;rintro e w2⟨⟨v2,rfl,b⟩,u⟩;have q:=af (aj j u);obtain⟨a2,c2,rfl,_,_⟩:=b.formN (l:=[]) rfl;have t:=af b;clear u j b M;go_wp2_with fail;refine(N _).mono ?_;rintro e w3⟨⟨v3,rfl,c⟩,g⟩;have r:=af (aj q g);have F:=af (t.later g (a0a _));obtain⟨a3,c3,rfl,_,_⟩:=c.formN (l:=[]) rfl;have B:=af (fun W (A:Below w3.heap.size w3 W)=>my a2 a3 c2 c3 0 [] W rfl ((ep rfl F).later A) ((ep rfl c).later A) (by omega));clear g q c t N F;go_wp2_with fail;refine(B w3 (Below.refl _ _)).mono ?_;rintro e w4⟨rfl,h⟩;have d:=af (aj r h);have E:=af h;clear h r;go_wp2_with fail;refine(B w4 (ae E)).mono ?_;rintro e w5⟨rfl,k⟩;have s:=af (aj d k);clear k d B E;go_wp2;go_ret;exact⟨rfl,s⟩
  .
   have U:=af (PT hz);rw[hz]at M N;clear hz;obtain⟨n,hn⟩:∃n,l.length=n:=⟨_,rfl⟩;have f:=af hn;have D:Hid (n<=6):=by show _<=_;have:=(jz U).2;omega
   have CG:=af (fun W (A:Below w.heap.size w W)=>mM (jy l) m W (by have:=vS l;omega) (o W A).1 (o W A).2.1 (o W A).2.2);rw[NI U]at CG;clear hn;go_wp2_with fail;refine(M _ (ae j)).mono ?_;rintro e w2⟨⟨v2,rfl,b⟩,u⟩;have q:=af (aj j u);have b:i6 w2 w1.heap.size v2 l:=b;obtain⟨a2,c2,rfl,ab,_⟩:=b.formN f;have Y:(n:Int)<=(c2:Int):=by omega
   have t:=af b;clear u j b M ab;go_wp2_with fail;refine(N _).mono ?_;rintro e w3⟨⟨v3,rfl,c⟩,g⟩;have r:=af (aj q g);have H:=af (t.later g (a0a _));have c:i6 w3 w2.heap.size v3 l:=c;obtain⟨a3,c3,rfl,_,_⟩:=c.formN f;have B:=af (my a2 a3 c2 c3 n l w3 f (ep f H) (ep f c) (by have:=ae D;omega));clear g q c t N;go_wp2_with fail;refine B.mono ?_;rintro e w4⟨rfl,h⟩;have d:=af (aj r h);have I:=af (H.later h (a0a _));clear h r H B;have CP:=af (ul a2 c2 l n f m w4 (ep f I) (by have:=ae D;omega) (by omega) (fun i hi=>xX U i (by rw[ae f];exact hi)) (o w4 (ae d)).1 (o w4 (ae d)).2.1 (o w4 (ae d)).2.2);obtain⟨P,hP⟩:∃x,jy l=x:=⟨_,rfl⟩;rw[hP]at CP CG;clear hP;go_wp2_with fail;refine CP.mono ?_;rintro e w5⟨rfl,k⟩;have s:=af (aj d k);have R:=af (I.later k (a0a _));clear k d I CP;go_wp2_with fail;refine(CG _ (ae s)).mono ?_;rintro e w6⟨⟨v6,rfl,y⟩,K⟩;have O:=af (aj s K);have J:=af (R.later K (a0a _));have y:i6 w6 w5.heap.size v6 l:=y;obtain⟨a6,c6,rfl,_,_⟩:=y.formN f;have B:=af (my a6 a2 c6 c2 n l w6 f (ep f y) (ep f J) (by have:=ae D;omega));clear K s R y CG;go_wp2_with fail;refine B.mono ?_;rintro e w7⟨rfl,L⟩;have C:=af (aj O L);have CO:=af (oh a2 c2 l n f m w7 (ep f (J.later L (a0a _))) (by have:=ae D;omega) Y (fun i hi=>xX U i (by rw[ae f];exact hi)) (o w7 (ae C)).1 (o w7 (ae C)).2.1);rw[ae U]at CO;clear L O J B;go_wp2_with fail;refine CO.mono ?_;rintro e w8⟨rfl,X⟩;have aa:=af (aj C X);clear X C CO;go_wp2;go_ret;exact⟨rfl,aa⟩
 . go_enter func3,ntmps3;go_wp2;go_ret;exact⟨rfl,Below.refl _ _⟩
