/- Texts. -/
import Derived.Test.YtemopnjckikkaaaGreatDoorM9
set_option linter.all false
set_option maxRecDepth 100000
set_option maxHeartbeats 4000000
namespace Go.Proofs.YtemopnjckikkaaaGreatDoor
open Go.Proofs.Tryz
open Go.RowKit
variable {Q:List (List UInt8)}{p:ByteArray}{x:List UInt8}
def Oa{t:List UInt8}(h:Q++[x]=dC [] t):dC [] (t++[47])=(Q++[x])++[[]]:=by
 rw[nt,a0c rfl,h]
def Qp{t:List UInt8}{b:UInt8}(h:Q++[x]=dC [] t)(hb:¬ b=47):dC [] (t++[b])=Q++[x++[b]]:=by
 rw[nt,a0d hb,←h];simp
def yA(s:ByteArray)(f k:Nat):(s.extract f k).data.toList=(s.data.toList.take k).drop f:=by
 rw[Lib.extract_data];simp[a3c]
def On(s:ByteArray)(f k:Nat)(c:f<=k)(b:k<s.size):(s.extract f (k+1)).data.toList=(s.extract f k).data.toList++[s[k]]:=by
 have a:k<s.data.toList.length:=by simpa using b
 rw[yA,yA,a1b a,List.drop_append_of_le_length (by simp;omega)];rfl
def vK(s:ByteArray)(k:Nat)(b:k<s.size):s.data.toList.take (k+1)=s.data.toList.take k++[s[k]]:=by
 have a:k<s.data.toList.length:=by simpa using b
 rw[a1b a];rfl
def Om(s:ByteArray)(k:Nat):(s.extract k k).data.toList=[]:=by
 rw[yA];simp
def Nc(s:ByteArray)(k:Nat)(a:k<s.size)(hb:s[k].toNat=47)(h:Q++[x]=dC [] (s.data.toList.take k)):dC [] (s.data.toList.take (k+1))=(Q++[x])++[[]]:=by
 have e:s[k]=47:=UInt8.toNat_inj.1 hb;rw[vK s k a,e];exact Oa h
def PE(s:ByteArray)(f k:Nat)(b:f<=k)(a:k<s.size)(hb:¬ s[k].toNat=47)(h:Q++[(s.extract f k).data.toList]=dC [] (s.data.toList.take k)):dC [] (s.data.toList.take (k+1))=Q++[(s.extract f (k+1)).data.toList]:=by
 have e:¬ s[k]=47:=fun e=>hb (by rw[e];rfl);rw[vK s k a,On s f k b a];exact Qp h e
def Io(s:ByteArray)(w:World)(M:s.size<=1048576) :
  Calls prog 104 #[s,.int .u8 47,.int .i64 ((s.size:Int)+1)] w fun e w'=>∃v P,e = .returned v/\dH w' w.heap.size v P/\P.map (·.data.toList)=nX s.data.toList/\Below w.heap.size w w':=by
 obtain⟨i0,K,A,B,C⟩:=a0p Tryz.infoStr;have X:(s.size:Int)<=1048576:=by omega
 have F:=af M;have H:=af (dH.lit w w.heap.size (a0a _));have G:Hid (Below w.heap.size w (w.alloc (.cells #[] 9))):=bx;clear M;go_enter func104,ntmps104;go_wp2_with fail
 go_loopw [7,8,9] (fun v fr i wr=>∃(k f:Nat) (P:List ByteArray),k<=s.size/\f<=k/\i = .int .i64 k/\fr = .int .i64 f/\dH wr w.heap.size v P/\P.length<=k/\P.map (·.data.toList)++[(s.extract f k).data.toList]=dC [] (s.data.toList.take k)/\Below w.heap.size w wr) (fun _ _ i _=>s.size-(intOf i).toNat)
 case atStart=>exact⟨0,0,[],a0f _,a0a _,rfl,rfl,H,a0a _,by simp[dC],G⟩
 case round=>
  obtain⟨k,f,P,S,Q,rfl,rfl,hq,t,q,j⟩:=hrel;obtain⟨m,hm⟩:∃m,P.length=m:=⟨_,rfl⟩;rw[hm]at t;have V:(m:Int)<=(k:Int):=by omega
  have T:(k:Int)<=(s.size:Int):=by omega
  have R:(f:Int)<=(k:Int):=by omega
  have y:=af hm;obtain⟨va,vc,rfl⟩:=hq.formN hm;have n:=af (hq.own hm);have p:=j.size;have d:=af j;have g:=af q;have I:=af Q;have N:=af S;have D:Hid (m+1<=maxLen/\(m+1)*16<=140737488355328):=by have:=ae F;show _/\_;unfold maxLen;omega
  have z:=af t;clear hq j hm q t;by_cases u:k<s.size
  .
   have L:(k:Int)<(s.size:Int):=by omega
   have W:(m:Int)<(s.size:Int)+1:=by omega
   have o:=af u;by_cases hb:s[k].toNat=47
   .
    have E:=af (Nc s k u hb g);go_wp2_with (at_builtin;refine a0u _ rfl _ _ 66 rfl w.heap.size 9 i0 (.string ByteArray.empty) 1 16 underlying66 K A B C rfl (by decide) _ _ _ rfl (a0m n _) ⟨wr.heap.size,0,none⟩ 1 1 [.string (s.extract f k)] rfl rfl (ck _ _ rfl _ _) (Gh _) D.1 D.2 (av p _) ?_;intro v' x2 c a l;clear l);have h:=aI (v:=.slice va m vc) a n (a0a _) p d;have x:=af (lq (b:=s.extract f k) y c);have r:=af h;clear c a h;go_wp2;go_roundw
    case rel=>
     refine⟨k+1,k+1,P++[s.extract f k],by have:=ae o;omega,a0a _,by go_num,by go_num,x,by have:=ae y;have:=ae z;simp;omega,?_,r⟩;rw[ae E,Om];simp
    case measure=>have:=ae o;simp[intOf];omega
   .
    have O:¬ (s[k].toNat:Int)=47:=by omega
    have E:=af (PE s f k I u hb g);go_wp2;go_roundw
    case rel=>
     refine⟨k+1,f,P,by have:=ae o;omega,by have:=ae I;omega,by go_num,rfl,?_,by have:=ae y;have:=ae z;omega,?_,d⟩
     . have:=ae n;rw[←ae y]at this ⊢;exact this
     . rw[ae E]
    case measure=>have:=ae o;simp[intOf];omega
  .
   obtain rfl:k=s.size:=by have:=ae N;omega
   go_wp2_with (at_builtin;refine a0u _ rfl _ _ 66 rfl w.heap.size 9 i0 (.string ByteArray.empty) 1 16 underlying66 K A B C rfl (by decide) _ _ _ rfl (a0m n _) ⟨wr.heap.size,0,none⟩ 1 1 [.string (s.extract f s.size)] rfl rfl (ck _ _ rfl _ _) (Gh _) D.1 D.2 (av p _) ?_;intro v' x2 c a l;clear l);have h:=aI (v:=.slice va m vc) a n (a0a _) p d;have x:=af (lq (b:=s.extract f s.size) y c);have r:=af h;clear c a h;go_wp2;go_ret;refine⟨_,_,rfl,x,?_,r⟩;have J:=ae g;have U:s.data.toList.take s.size=s.data.toList:=a0t (by simp);rw[U]at J;rw[a0H];exact J
def Gg(b:UInt8):okB b=true<->(97<=b.toNat/\b.toNat<=122)∨(48<=b.toNat/\b.toNat<=57)∨b.toNat=46∨b.toNat=45∨b.toNat=95:=by
 simp[okB]
def nP{p:ByteArray}{m:Nat}(a:m<p.size)(h:okB p[m]=false):fK p.data.toList=false:=by
 have:p.data.toList.all okB=false:=by
  rw[a3d];refine⟨p[m],?_,by simp[h]⟩;have e:p[m]=p.data.toList[m]'(by simpa using a):=rfl;rw[e];exact a18 _
 simp[fK,this]
def rm(h:inB (p.size:Int) 1 10=false):fK p.data.toList=false:=by
 have hb:=eG.1 h;have e:p.data.toList.length=p.size:=by simp
 have:(decide (1<=p.data.toList.length)&&decide (p.data.toList.length<=10))=false:=by rw[e];simp;omega
 simp only[fK];rw[←Bool.and_assoc (decide _),this];simp
def Gm(h:∀j (c:j<p.size),okB p[j]=true)(d:inB (p.size:Int) 1 10=true)(b:(p.toList == [46])=false)(h2:(p.toList == [46,46])=false):fK p.data.toList=true:=by
 obtain⟨g,i⟩:=aH.1 d;have e:p.data.toList.length=p.size:=by simp
 have a:p.data.toList.all okB=true:=by
  rw[a08];intro x f;obtain⟨j,c,rfl⟩:=a1E f;exact h j (by rw[←e];exact c)
 rw[a1z]at b h2;simp only[fK,a,b,h2,e];simp;omega
def Cd(h:(p.toList == [46])=true):fK p.data.toList=false:=by
 rw[a1z]at h;rw[a3e.1 h];decide
def xw(h:(p.toList == [46,46])=true):fK p.data.toList=false:=by
 rw[a1z]at h;rw[a3e.1 h];decide
def Gd{s:ByteArray}{l:List ByteArray}(b:l.map (·.data.toList)=nX s.data.toList){j:Nat}(a:j<l.length)(h:fK (l.getD j ByteArray.empty).data.toList=false):lj s.data.toList=false:=by
 have:(nX s.data.toList).all fK=false:=by
  rw[←b,a3d];refine⟨(l.getD j ByteArray.empty).data.toList,?_,by rw[h];simp⟩;rw[a2t];exact⟨l.getD j ByteArray.empty,by simp[List.getD,a],rfl⟩
 simp[lj,this]
def BL{s:ByteArray}{l:List ByteArray}(b:l.map (·.data.toList)=nX s.data.toList)(h:∀j,j<l.length->fK (l.getD j ByteArray.empty).data.toList=true):lj s.data.toList=decide (l.length<=4):=by
 have e:(nX s.data.toList).length=l.length:=by rw[←b];simp
 have:(nX s.data.toList).all fK=true:=by
  rw[←b,a08];intro x c;rw[a2t]at c;obtain⟨y,d,rfl⟩:=c;obtain⟨j,a,rfl⟩:=a1E d;have:=h j a;simpa[List.getD,a]using this
 simp[lj,this,e]
theorem nv:∀(l cur x:List UInt8),x∈dC cur l->x.length<=cur.length+l.length
 | [],cur,x,h=>by simp[dC]at h;subst h;simp
 | b :: l,cur,x,h=>by
  unfold dC at h
  split at h
  .
   rcases a0V.1 h with rfl|h
   . simp
   . have:=nv l [] x h;simp at this ⊢;omega
  . have:=nv l (cur++[b]) x h;simp at this ⊢;omega
def vF(s:ByteArray)(w:World)(hs:s.size<=1048576) :
  CD 72 #[s] w (.bool (lj s.data.toList)):=by
 have F:=af hs;have ab:(s.size:Int)<=1048576:=by omega
 clear hs;go_enter func72,ntmps72;go_wp2_with fail;refine(Io s _ F).mono ?_;rintro e x1⟨v,l,rfl,hq,o,M⟩;obtain⟨n,hn⟩:∃n,l.length=n:=⟨_,rfl⟩;obtain⟨va,vc,rfl⟩:=hq.formN hn;have Q:0<n:=by
  have e:=congrArg List.length o;have:=FT s.data.toList [];cases h:dC [] s.data.toList with
  | nil=>exact absurd h this
  | cons a t=>
   simp only[nX,h,a0K,a0A]at e;omega
 have aa:n<=s.size+1:=by
  have e:=congrArg List.length o;have:=pt s.data.toList [];simp only[a0K]at e;have h2:s.data.toList.length=s.size:=by simp
  unfold nX at e;omega
 have a6:(n:Int)<=1048577:=by omega
 obtain⟨g,rfl,hg,N⟩:=hq.at hn Q;have PL:Hid (∀k,k<n->(l.getD k ByteArray.empty).size<=1048576):=by
  intro k T;have O:(l.getD k ByteArray.empty).data.toList∈nX s.data.toList:=by
   rw[←o,a2t];exact⟨l.getD k ByteArray.empty,by simp[List.getD,hn,T],rfl⟩
  have:=nv s.data.toList [] _ O;have e1:(l.getD k ByteArray.empty).data.toList.length=(l.getD k ByteArray.empty).size:=by simp
  have e2:s.data.toList.length=s.size:=by simp
  have:=ae F;simp only[a0Q]at *
  omega
 have HC:=af N;have B:=af M;have E:=af (fun j (x:j<l.length)=>@Gd s l o j x);have z:=af (@BL s l o);rw[hn]at E z;clear hq o N M Q aa F ab;go_wp2_with fail
 go_loop [4,5,6] (fun i _ _=>∃k:Nat,k<=n/\i = .int .i64 k/\∀j,j<k->fK (l.getD j ByteArray.empty).data.toList=true) (fun i _ _=>n-(intOf i).toNat)
 case atStart=>exact⟨0,a0f _,rfl,fun j x=>absurd x (by omega)⟩
 case round=>
  obtain⟨k,T,rfl,C⟩:=hrel;have r:=af C;have HK:=af T;clear C;by_cases A:k<n
  .
   have ao:(k:Int)<(n:Int):=by omega
   have hc:=ae HC k A;have f:=af (ae E k A);have U:Hid (fK (l.getD k ByteArray.empty).data.toList=true->∀j,j<k+1->fK (l.getD j ByteArray.empty).data.toList=true):=by
    intro e j x;by_cases G:j=k
    . rw[G];exact e
    . exact r j (by omega)
   have J:=af A;clear T r;have V:=af (ae PL k A);generalize l.getD k ByteArray.empty=p at *
   have a7:(p.size:Int)<=9223372036854775807:=by
    have:=ae V;omega
   go_wp2_with fail
   go_loop [6] (fun q=>∃m:Nat,m<=p.size/\q = .int .i64 m/\∀j (x:j<p.size),j<m->okB p[j]=true) (fun q=>p.size-(intOf q).toNat)
   case atStart=>exact⟨0,a0f _,rfl,fun j _ x=>absurd x (by omega)⟩
   case round=>
    obtain⟨m,Z,rfl,D⟩:=hrel;have u:=af D;have K:=af Z;clear D;by_cases P:m<p.size
    .
     have a5:(m:Int)<(p.size:Int):=by omega
     have b:=af P;have y:Hid (okB p[m]=true->∀j (x:j<p.size),j<m+1->okB p[j]=true):=by
      intro e j x an;by_cases G:j=m
      . subst G;exact e
      . exact u j x (by omega)
     have a0:(0:Int)<=(p[m].toNat:Int):=by omega
     have al:(p[m].toNat:Int)<256:=by have:=p[m].toNat_lt;omega
     clear Z u K;cases d:okB p[m]
     .
      have H:¬ ((97<=p[m].toNat/\p[m].toNat<=122)∨(48<=p[m].toNat/\p[m].toNat<=57)∨p[m].toNat=46∨p[m].toNat=45∨p[m].toNat=95):=fun e=>Bool.noConfusion (d.symm.trans ((Gg _).2 e));have e46:¬ (p[m].toNat:Int)=46:=by omega
      have e45:¬ (p[m].toNat:Int)=45:=by omega
      have e95:¬ (p[m].toNat:Int)=95:=by omega
      by_cases a1:(97:Int)<=(p[m].toNat:Int)
      .
       have a2:¬ (p[m].toNat:Int)<=122:=by omega
       have a3:(48:Int)<=(p[m].toNat:Int):=by omega
       clear H;have HP:=af (ae f (nP b d));go_wp2;all_goals first
        | (go_ret;exact⟨am HP.symm,B⟩)
        | (exfalso;rename_i hx;first|omega|(simp at hx;omega))
        | (exfalso;rename_i hx _ _;simp at hx;omega)
      .
       by_cases a3:(48:Int)<=(p[m].toNat:Int)
       .
        have a4:¬ (p[m].toNat:Int)<=57:=by omega
        clear H;have HP:=af (ae f (nP b d));go_wp2;all_goals first
         | (go_ret;exact⟨am HP.symm,B⟩)
         | (exfalso;rename_i hx;first|omega|(simp at hx;omega))
         | (exfalso;rename_i hx _ _;simp at hx;omega)
       .
        skip
        clear H;have HP:=af (ae f (nP b d));go_wp2;all_goals first
         | (go_ret;exact⟨am HP.symm,B⟩)
         | (exfalso;rename_i hx;first|omega|(simp at hx;omega))
         | (exfalso;rename_i hx _ _;simp at hx;omega)
     .
      have R:=(Gg p[m]).1 d;rcases R with⟨a1,a2⟩|⟨a1,a2⟩|a1|a1|a1
      .
       have S:(97:Int)<=(p[m].toNat:Int):=by omega
       have b2:(p[m].toNat:Int)<=122:=by omega
       clear a1 a2;go_wp2;all_goals first
        | (
          go_round
          case rel=>exact⟨m+1,by have:=ae b;omega,by go_num,y d⟩
          case measure=>have:=ae b;simp[intOf];omega)
        | (exfalso;rename_i hx;first|omega|(simp at hx;omega))
        | (exfalso;rename_i hx _ _;simp at hx;omega)
      .
       have S:¬ (97:Int)<=(p[m].toNat:Int):=by omega
       have b2:(48:Int)<=(p[m].toNat:Int):=by omega
       have b3:(p[m].toNat:Int)<=57:=by omega
       clear a1 a2;go_wp2;all_goals first
        | (
          go_round
          case rel=>exact⟨m+1,by have:=ae b;omega,by go_num,y d⟩
          case measure=>have:=ae b;simp[intOf];omega)
        | (exfalso;rename_i hx;first|omega|(simp at hx;omega))
        | (exfalso;rename_i hx _ _;simp at hx;omega)
      .
       have S:(p[m].toNat:Int)=46:=by omega
       clear a1;go_wp2;all_goals first
        | (
          go_round
          case rel=>exact⟨m+1,by have:=ae b;omega,by go_num,y d⟩
          case measure=>have:=ae b;simp[intOf];omega)
        | (exfalso;rename_i hx;first|omega|(simp at hx;omega))
        | (exfalso;rename_i hx _ _;simp at hx;omega)
      .
       have S:(p[m].toNat:Int)=45:=by omega
       clear a1;go_wp2;all_goals first
        | (
          go_round
          case rel=>exact⟨m+1,by have:=ae b;omega,by go_num,y d⟩
          case measure=>have:=ae b;simp[intOf];omega)
        | (exfalso;rename_i hx;first|omega|(simp at hx;omega))
        | (exfalso;rename_i hx _ _;simp at hx;omega)
      .
       have S:(p[m].toNat:Int)=95:=by omega
       clear a1;go_wp2;all_goals first
        | (
          go_round
          case rel=>exact⟨m+1,by have:=ae b;omega,by go_num,y d⟩
          case measure=>have:=ae b;simp[intOf];omega)
        | (exfalso;rename_i hx;first|omega|(simp at hx;omega))
        | (exfalso;rename_i hx _ _;simp at hx;omega)
    .
     obtain rfl:m=p.size:=by have:=ae K;omega
     have L:Hid (∀j (x:j<p.size),okB p[j]=true):=fun j x=>ae u j x x;clear u P Z;cases I:inB (p.size:Int) 1 10
     . have HP:=af (ae f (rm I));go_wp2_with (go_at_call 16;refine(aT _ _ _ _).mono ?_;rintro e w9⟨rfl,c⟩;rw[c];clear c;rw[I]);go_ret;exact⟨am HP.symm,B⟩
     .
      cases W:(p.toList == [46])
      .
       cases X:(p.toList == [46,46])
       .
        have HP:=af (ae U (Gm L I W X));go_wp2_with (go_at_call 16;refine(aT _ _ _ _).mono ?_;rintro e w9⟨rfl,c⟩;rw[c];clear c;rw[I])
        go_round
        case rel=>exact⟨k+1,by have:=ae J;omega,by go_num,HP⟩
        case measure=>have:=ae J;simp[intOf];omega
       .
        have HP:=af (ae f (xw X));have ad:p.toList=[46,46]:=by simpa using X
        go_wp2_with (go_at_call 16;refine(aT _ _ _ _).mono ?_;rintro e w9⟨rfl,c⟩;rw[c];clear c;rw[I]);go_ret;exact⟨am HP.symm,B⟩
      .
       have HP:=af (ae f (Cd W));have ac:p.toList=[46]:=by simpa using W
       go_wp2_with (go_at_call 16;refine(aT _ _ _ _).mono ?_;rintro e w9⟨rfl,c⟩;rw[c];clear c;rw[I]);go_ret;exact⟨am HP.symm,B⟩
  .
   obtain rfl:k=n:=by omega
   have HY:=af (ae z (ae r));clear r z E HC;by_cases h4:k<=4
   .
    have Y:(k:Int)<=4:=by omega
    go_wp2;go_ret;exact⟨am (by rw[ae HY];simp[h4]),B⟩
   .
    have Y:¬ (k:Int)<=4:=by omega
    go_wp2;go_ret;exact⟨am (by rw[ae HY];simp[h4]),B⟩
