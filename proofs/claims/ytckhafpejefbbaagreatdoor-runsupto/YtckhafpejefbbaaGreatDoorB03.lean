import Derived.Test.YtckhafpejefbbaaGreatDoorProg
import Derived.Handy
import Derived.Test.YtckhafpejefbbaaGreatDoorB02
import Derived.WalkSpells
import Derived.WalkLawsBesides
import Derived.Deep.Light
import Derived.Lib.IndexBytes

set_option maxRecDepth 100000
set_option maxHeartbeats 4000000
namespace Go.Proofs.YtckhafpejefbbaaGreatDoor
abbrev vI(n:Int):Value:=.int .i64 n
abbrev vU(n:Int):Value:=.int .u8 n
theorem oM{p:Prop}(h:p:=by omega):p:=h
abbrev jA:=@if_neg
abbrev mA:=@if_pos
section
open Tw Go.Proofs.Tryz
open Go.RowKit
section
variable{k:IntKind}{a b:Int}
theorem Ft{a b:Bool}(h:a=b):Ending.returned (.bool a)=.returned (.bool b):=by rw[h]
theorem Fu(h:a=b):Ending.returned (.int k a)=.returned (.int k b):=by rw[h]
theorem Qg{j:IntKind}{c d:Int}(h:a=b)(g:c=d):Ending.returned (.tuple #[.int k a,.int j c])=.returned (.tuple #[.int k b,.int j d]):=by rw[h,g]
theorem Ln(c:Int)(w:World)(d:0<=c)(f:c<=255):
  Calls prog 147 #[vU c] w λe w'=>e=.returned (.bool (Et c))/\w=w':=by
 go_in
 go_wp2
 all_goals (go_ret;exact⟨Ft (by simp[Et];omega),rfl⟩)
theorem Jl(c:Int)(w:World)(d:0<=c)(f:c<=255):
  Calls prog 151 #[vU c] w λe w'=>e=.returned (.bool (B6 c))/\w=w':=by
 go_in
 go_wp2
 all_goals (go_ret;exact⟨Ft (by simp[B6];omega),rfl⟩)
theorem Rp(c:Int)(w:World)(d:0<=c)(f:c<=255):
  Calls prog 150 #[vU c] w λe w'=>e=.returned (.bool (Ef c))/\w=w':=by
 go_in;cases g:Et c
 ·go_wp2_with (first|(go_at_call 147;refine(Ln _ _ d f).mono ?_;rintro e w' ⟨rfl,rfl⟩;rw[g])|(go_at_call 151;refine(Jl _ _ d f).mono ?_;rintro e w' ⟨rfl,rfl⟩));go_ret;exact⟨Ft (by simp[Et]at g;simp[Ef,B6];omega),rfl⟩
 ·go_wp2_with (first|(go_at_call 147;refine(Ln _ _ d f).mono ?_;rintro e w' ⟨rfl,rfl⟩;rw[g])|(go_at_call 151;refine(Jl _ _ d f).mono ?_;rintro e w' ⟨rfl,rfl⟩));go_ret;exact⟨Ft (by simp[Et]at g;simp[Ef];omega),rfl⟩
theorem zor(c:Int)(w:World):
  Calls prog 154 #[vU c] w λe w'=>e=.returned (.tuple #[vI (Tw.Id c).1,vI (Tw.Id c).2])/\w=w':=by
 go_in
 go_wp2
 all_goals (go_ret2;exact⟨by simp_all[Tw.Id],rfl⟩)
theorem zdn(s:ByteArray)(w:World):
    Calls prog 199 #[.string s] w λe w'=>e=.returned (vI (Cw s.data.toList))/\w=w':=by
  go_in
  go_wp2
  all_goals (go_ret;go_light;exact⟨Fu (by simp[beq_iff_eq,beq_eq_false_iff_ne,ne_eq,Lib.toList_data]at *;simp[Cw, *]),rfl⟩)
theorem zos(s:ByteArray)(w:World)(d:s.size<=300):
  Calls prog 148 #[.string s] w λe w'=>e=.returned (.tuple #[vI (Jq s.data.toList).1,vI (Jq s.data.toList).2])/\w=w':=by
 have c:s.data.toList.length=s.size:=rfl;by_cases h:s.size<=6
 ·go_in;go_wp2_with (go_at_call 199;refine(zdn _ _).mono ?_;rintro e w' ⟨rfl,rfl⟩)
  go_ret2;exact⟨Qg (by rw[Jq,jA oM]) (by rw[Jq,jA oM];rfl),rfl⟩
 ·go_in;go_wp21
  go_ret2;exact⟨Qg (by rw[Jq,mA oM]) (by rw[Jq,mA oM]),rfl⟩
theorem zhz(s:ByteArray)(w:World)(d:s.size<=300):
  Calls prog 152 #[.string s] w λe w'=>e=.returned (.tuple #[vI (Ge s.data.toList).1,vI (Ge s.data.toList).2])/\w=w':=by
 have c:s.data.toList.length=s.size:=rfl;by_cases h:s.size<=9
 ·go_in;go_wp21
  go_ret2;exact⟨Qg (by rw[Ge,jA oM]) (by rw[Ge,jA oM];rfl),rfl⟩
 ·go_in;go_wp21
  go_ret2;exact⟨Qg (by rw[Ge,mA oM]) (by rw[Ge,mA oM]),rfl⟩
def Ew.Hs:Prop:=∀(s:ByteArray) (c:Int) (w:World),
  Calls prog 146 #[.string s,.int .u8 c] w λe d=>e=.returned (.int .i64 (Lib.indexByte s.data.toList c.toNat.toUInt8))/\w=d
theorem zdo(f:Ew.Hs)(s:ByteArray)(w:World)(d:0<s.size)(i:s.size<=300):
  Calls prog 79 #[.string s] w λe w'=>e=.returned (vI (Mf s.data.toList))/\w=w':=by
 have g:=Te s d;have H:=g;have c:=Vi s.data.toList 125;have h:s.data.toList.length=s.size:=rfl;rw[h]at c;have⟨j,l⟩:=c;go_in;go_wp2_with (go_at_call 146;refine(f _ _ _).mono ?_;rintro e w' ⟨rfl,rfl⟩)
 all_goals (go_ret;go_light;exact⟨Fu (by have:=H;simp_all[Mf]),rfl⟩)
end
end
abbrev lD:=@List.drop_eq_getElem_cons
abbrev eE:=@List.getElem_of_mem
section
open Tw Go.Proofs.Tryz
open Go.RowKit
section
variable{a b:ByteArray}
theorem Wy(p:Int->Bool)(l:zU)(k:Nat)(h:k<l.length)(f:∀j (c:j<k),p (l[j]'oM).toNat=true):
  (p l[k].toNat=false->Gy p l=l.take k):=by
 intro g;unfold Gy
 conv=>lhs;rw[<-List.take_append_drop k l]
 rw[List.takeWhile_append_of_pos]
 ·have e:l.drop k=l[k]::l.drop (k+1):=by rw[lD h]
  rw[e,List.takeWhile_cons_of_neg (by simp[g])];simp
 ·intro a d;obtain⟨j,c,rfl⟩:=eE d;rw[List.getElem_take];exact f j (by simp at c;omega)
theorem T7{c :Type}(p :c -> Bool):∀(l:List c),(∀a∈l,p a=true)->l.takeWhile p=l
 |[],_=>rfl
 |a::l,h=>by
  rw[List.takeWhile_cons_of_pos (h a sM),T7 p l λb d=>h b (by simp[d])]
theorem Rq(p:Int->Bool)(l:zU)(e:∀j (c:j<l.length),p l[j].toNat=true):Gy p l=l:=by
 unfold Gy;refine T7 _ _ λa d=>?_;obtain⟨j,c,rfl⟩:=eE d;exact e j c
theorem zh0(h:a.data.toList=b.data.toList):a=b:=by
 have⟨⟨l⟩⟩:=a;have⟨⟨m⟩⟩:=b;simp at h;rw[h]
theorem Mj(s:ByteArray)(k:Nat):s.extract 0 k=⟨(s.data.toList.take k).toArray⟩:=by
 apply zh0;rw[Lib.extract_data];simp
theorem Zm(h:a=b):Ending.returned (.string a)=.returned (.string b):=by rw[h]
theorem zot(s:ByteArray)(w:World)(n:s.size<=300):
  Calls prog 149 #[.string s,.func (.func 150) #[] #[]] w λe w'=>e=.returned (.string ⟨(Gy Ef s.data.toList).toArray⟩)/\w=w':=by
 go_in;go_wp21
 go_loop [5] (λi=>∃k:Nat,k<=s.size/\i=vI k/\∀j (c:j<s.data.toList.length),j<k->Ef (s.data.toList[j]).toNat=true) (λi=>s.size-(intOf i).toNat)
 case atStart=>exact⟨0,oM,rfl,oM⟩
 case round=>
  obtain⟨k,p,rfl,l⟩:=hrel;have d:=l;by_cases m:k<s.size
  ·cases g:Ef s[k].toNat
   ·go_wp2_with (go_at_call 150;refine(Rp _ _ oM (by have:=s[k].toNat_lt;omega)).mono ?_;rintro e w' ⟨rfl,rfl⟩);go_ret;go_light;refine⟨Zm ?_,rfl⟩;rw[Mj,Wy Ef s.data.toList k m (λj c=>d j _ c) g]
   ·go_wp2_with (go_at_call 150;refine(Rp _ _ oM (by have:=s[k].toNat_lt;omega)).mono ?_;rintro e w' ⟨rfl,rfl⟩);go_round
    case rel=>
     go_light;refine⟨k+1,oM,by go_num,λj c o=>?_⟩;by_cases h:j<k
     ·exact d j c h
     ·have:j=k:=oM;subst this;exact g
    case measure=>go_light;simp[intOf];omega
  ·go_wp21;go_ret;go_light;refine⟨Zm ?_,rfl⟩;have f:k=s.size:=oM;rw[Mj,Rq Ef s.data.toList (λj c=>d j c (by rw[f];exact c)),f];rw[List.take_of_length_le (show s.data.toList.length<=s.size from znL _)]
theorem zlv(s:ByteArray)(w:World)(n:s.size<=300):
  Calls prog 149 #[.string s,.func (.func 151) #[] #[]] w λe w'=>e=.returned (.string ⟨(Gy B6 s.data.toList).toArray⟩)/\w=w':=by
 go_in;go_wp21
 go_loop [5] (λi=>∃k:Nat,k<=s.size/\i=vI k/\∀j (c:j<s.data.toList.length),j<k->B6 (s.data.toList[j]).toNat=true) (λi=>s.size-(intOf i).toNat)
 case atStart=>exact⟨0,oM,rfl,oM⟩
 case round=>
  obtain⟨k,p,rfl,l⟩:=hrel;have d:=l;by_cases m:k<s.size
  ·cases g:B6 s[k].toNat
   ·go_wp2_with (go_at_call 151;refine(Jl _ _ oM (by have:=s[k].toNat_lt;omega)).mono ?_;rintro e w' ⟨rfl,rfl⟩);go_ret;go_light;refine⟨Zm ?_,rfl⟩;rw[Mj,Wy B6 s.data.toList k m (λj c=>d j _ c) g]
   ·go_wp2_with (go_at_call 151;refine(Jl _ _ oM (by have:=s[k].toNat_lt;omega)).mono ?_;rintro e w' ⟨rfl,rfl⟩);go_round
    case rel=>
     go_light;refine⟨k+1,oM,by go_num,λj c o=>?_⟩;by_cases h:j<k
     ·exact d j c h
     ·have:j=k:=oM;subst this;exact g
    case measure=>go_light;simp[intOf];omega
  ·go_wp21;go_ret;go_light;refine⟨Zm ?_,rfl⟩;have f:k=s.size:=oM;rw[Mj,Rq B6 s.data.toList (λj c=>d j c (by rw[f];exact c)),f];rw[List.take_of_length_le (show s.data.toList.length<=s.size from znL _)]
theorem zcm(p:Int->Bool)(s:ByteArray)(h:s.size<=300):(⟨(Gy p s.data.toList).toArray⟩:ByteArray).size<=300:=by
 have:=(List.takeWhile_sublist (λc:UInt8=>p c.toNat) (l:=s.data.toList)).length_le;have e:(⟨(Gy p s.data.toList).toArray⟩:ByteArray).size=(Gy p s.data.toList).length:=by simp[ByteArray.size]
 have g:s.data.toList.length=s.size:=rfl;unfold Gy at e ⊢;omega
theorem zh1(s:ByteArray)(w:World)(d:0<s.size)(c:s.size<=300)(f:Et s[0].toNat=true):
  Calls prog 80 #[.string s] w λe w'=>e=.returned (.tuple #[vI (Au s.data.toList).1,vI (Au s.data.toList).2])/\w=w':=by
 have H:=Te s d;have g:=s[0].toNat_lt;go_in;go_wp2_with (first|(go_at_call 147;refine(Ln _ _ oM oM).mono ?_;rintro e w' ⟨rfl,rfl⟩)|(go_at_call 149;refine(zot _ _ c).mono ?_;rintro e w' ⟨rfl,rfl⟩)|(go_at_call 148;refine(zos _ _ (zcm _ _ c)).mono ?_;rintro e w' ⟨rfl,rfl⟩))
 go_ret2;go_light;refine⟨Qg ?_ ?_,rfl⟩<;>simp[Au,H,f]
theorem zdp(s:ByteArray)(w:World)(d:0<s.size)(c:s.size<=300)(g:Et s[0].toNat=false)(f:B6 s[0].toNat=true):
  Calls prog 80 #[.string s] w λe w'=>e=.returned (.tuple #[vI (Au s.data.toList).1,vI (Au s.data.toList).2])/\w=w':=by
 have H:=Te s d;have h:=s[0].toNat_lt;go_in;go_wp2_with (first|(go_at_call 147;refine(Ln _ _ oM oM).mono ?_;rintro e w' ⟨rfl,rfl⟩)|(go_at_call 151;refine(Jl _ _ oM oM).mono ?_;rintro e w' ⟨rfl,rfl⟩)|(go_at_call 149;refine(zlv _ _ c).mono ?_;rintro e w' ⟨rfl,rfl⟩)|(go_at_call 152;refine(zhz _ _ (zcm _ _ c)).mono ?_;rintro e w' ⟨rfl,rfl⟩))
 go_ret2;go_light;refine⟨Qg ?_ ?_,rfl⟩<;>simp[Au,H,g,f]
theorem zdq(s:ByteArray)(w:World)(d:0<s.size)(f:s.size<=300):
  Calls prog 153 #[.string s,.string ⟨#[45,62]⟩] w λe w'=>e=.returned (.bool (decide (s.data.toList.take 2=[45,62])))/\w=w':=by
 by_cases g:2<=s.size
 ·go_in
  go_wp2;go_ret;go_light;refine⟨Ft ?_,rfl⟩;rw[Lib.extract_toList];rw[Bool.eq_iff_iff];simp
 ·go_in
  go_wp2;go_ret;go_light;refine⟨Ft ?_,rfl⟩;symm;rw[decide_eq_false_iff_not];intro c
  have:=congrArg List.length c;simp at this;omega
theorem zh2(s:ByteArray)(w:World)(d:0<s.size)(f:s.size<=300)(i:Et s[0].toNat=false)(h:B6 s[0].toNat=false):
  Calls prog 80 #[.string s] w λe w'=>e=.returned (.tuple #[vI (Au s.data.toList).1,vI (Au s.data.toList).2])/\w=w':=by
 have H:=Te s d;have j:=s[0].toNat_lt;cases g:decide (s.data.toList.take 2=[45,62])
 all_goals
  have c:=g;go_in;go_wp2_with (first|(go_at_call 147;refine(Ln _ _ oM oM).mono ?_;rintro e w' ⟨rfl,rfl⟩)|(go_at_call 151;refine(Jl _ _ oM oM).mono ?_;rintro e w' ⟨rfl,rfl⟩)|(go_at_call 153;refine(zdq _ _ d f).mono ?_;rintro e w' ⟨rfl,rfl⟩;rw[c])|(go_at_call 154;refine(zor _ _).mono ?_;rintro e w' ⟨rfl,rfl⟩))
  go_ret2;go_light
  have:=c;simp at this;refine⟨Qg ?_ ?_,rfl⟩<;>simp[Au,H,i,h,this]
theorem zcn(s:ByteArray)(w:World)(c:0<s.size)(d:s.size<=300):
  Calls prog 80 #[.string s] w λe w'=>e=.returned (.tuple #[vI (Au s.data.toList).1,vI (Au s.data.toList).2])/\w=w':=by
 cases f:Et s[0].toNat
 ·cases g:B6 s[0].toNat
  ·exact zh2 s w c d f g
  ·exact zdp s w c d f g
 ·exact zh1 s w c d f
end
end
namespace Tw
section
open Go
structure Tok where
 sort:Int
 fr:Nat
 to:Nat
 deriving DecidableEq
def Ct(l:zU):Nat->Nat->List Tok->Except Nat (List Tok)
 |0,k,_=>.error k
 |fuel+1,k,acc=>
  if k<l.length then
   if 0<Mf (l.drop k)then Ct l fuel (k+(Mf (l.drop k)).toNat) acc
   else if(Au (l.drop k)).2=0 then .error k
   else Ct l fuel (k+(Au (l.drop k)).2.toNat) (acc++[⟨(Au (l.drop k)).1,k,k+(Au (l.drop k)).2.toNat⟩])
  else .ok (acc++[⟨0,k,k⟩])
def split(l:zU):Except Nat (List Tok):=Ct l (l.length+1) 0 []
theorem Vj(l:zU)(h:0<l.length):0<=Mf l/\Mf l<=l.length:=by
 unfold Mf
 have:=Vi l 125;split
 ·omega
 ·split<;>omega
theorem zkv(p:Int->Bool)(l:zU):(Gy p l).length<=l.length:=
 (List.takeWhile_sublist (λc:UInt8=>p c.toNat) (l:=l)).length_le
theorem zou(c:Int):0<=(Id c).2/\(Id c).2<=1:=by
 unfold Id
 repeat' split
 all_goals simp
theorem Tf(l:zU)(h:0<l.length):0<=(Au l).2/\(Au l).2<=l.length:=by
 have d:=zkv Ef l;have b:=zkv B6 l;have c:=zou (D7 l);unfold Au;split
 ·unfold Jq;split<;>simp;omega
 ·split
  ·unfold Ge;split<;>simp;omega
  ·split
   ·rename_i a
    have:=congrArg List.length a;simp at this;simp;omega
   ·omega
end
end Tw
theorem kR{p:Prop}(h:p:=by kernel_rfl):p:=h
section
open Tw Go.Proofs.Tryz
open Go.RowKit
def Wn(t:Tw.Tok):List Value:=[.int .i64 t.sort,.int .i64 t.fr,.int .i64 t.to]
def Cx:List Tw.Tok->List Value
 |[]=>[]
 |t::l=>Wn t++Cx l
theorem Pp(a b:List Tw.Tok):Cx (a++b)=Cx a++Cx b:=by
 induction a with
 |nil=>rfl
 |cons t a ih=>simp[Cx,ih]
theorem Dp(w:World)(a b c:Value)(t:TypeId):∀j u,[a,b,c][j]?=some u->(w.alloc (.cells #[a,b,c] t)).cell? (((aD w.heap.size 0):Addr).add j)=some u:=by
 intro j u d
 match j,d with
 |0,d=>simp at d;subst d;simp[Addr.add]
 |1,d=>simp at d;subst d;simp[Addr.add]
 |2,d=>simp at d;subst d;simp[Addr.add]
 |j+3,d=>simp at d
theorem zlw(s:ByteArray)(k:Nat):(s.extract k s.size).data.toList=s.data.toList.drop k:=Lib.extract_to_end s k
theorem zlx(s:ByteArray)(k:Nat):(s.extract k s.size).size=s.size-k:=by
 simp[ByteArray.size_extract]
theorem Tryz.zt7:(Tryz.prog.info? 176).map (λi=>(i.zero,i.size,i.bytes))=some (some (.agg #[vI 0,vI 0,vI 0]),3,24):=kR
def zoj(s:ByteArray)(w:World)(e:Ending)(w':World):Prop:=Below w.heap.size w w' /\
   match split s.data.toList with
   |.error k=>e=.returned (.tuple #[.slice none 0 0,.int .i64 k,.bool false])
   |.ok ts=>∃v,e=.returned (.tuple #[v,.int .i64 0,.bool true])/\w'.ownsRow w.heap.size 176 3 v ts.length (Cx ts)
theorem Ml{k:IntKind}{a b:Int}(h:a=b):Value.int k a=.int k b:=by rw[h]
theorem Wz (hIB:Ew.Hs) (s:ByteArray) (w:World) (h1:s.size<=300) :
    Calls Tryz.prog 46 #[.string s] w (zoj s w):=by
  have ⟨i0,hi,hz0,hz1,hz2⟩:=info_parts Tryz.zt7
  go_enter Tryz.func46,Tryz.ntmps46
  go_wp21
  go_loopw [5,6] (fun v i wr=>∃(k fuel:Nat) (acc:List Tw.Tok),i = .int .i64 k/\k<=s.size/\s.size<k+fuel/\acc.length<=k/\wr.ownsRow w.heap.size 176 3 v acc.length (Cx acc)/\Below w.heap.size w wr/\(Tw.split s.data.toList=Tw.Ct s.data.toList fuel k acc)) (fun _ i _=>s.size-(intOf i).toNat)
  case atStart=>exact ⟨0,s.size+1,[],rfl,by omega,by omega,by simp,World.ownsRow_nil _ _ _ _,Below.refl _ _,rfl⟩
  case round =>
    obtain ⟨k,fuel,acc,rfl,hk,hf,ha,hown,hb,HS⟩:=hrel
    obtain ⟨fuel,rfl⟩:∃f',fuel=f'+1:=⟨fuel-1,by omega⟩
    have hl:s.data.toList.length=s.size:=rfl
    by_cases hlt:k<s.size
    · have hds:=zlx s k
      have hdl:=zlw s k
      have HD:=hdl
      have HL:=hl
      have g0:=Tw.Vj (s.data.toList.drop k) (by simp; omega)
      have f0:=Tw.Tf (s.data.toList.drop k) (by simp; omega)
      rw [List.length_drop,hl] at g0 f0
      generalize hG:Tw.Mf (s.data.toList.drop k)=G at *
      generalize hF:Tw.Au (s.data.toList.drop k)=F at *
      have ⟨srt,len⟩:=F
      have HG:=hG
      have HF:=hF
      simp only at f0
      have ⟨g1,g2⟩:=g0
      have ⟨f1,f2⟩:=f0
      by_cases hgp:0<G
      · go_wp2_with (go_at_call 79; refine (zdo hIB _ _ (by omega) (by omega)).mono ?_; rintro e w' ⟨rfl,rfl⟩; rw [HD,HG])
        go_roundw
        case rel =>
          go_light
          refine ⟨k+G.toNat,fuel,acc,Ml (by omega),by omega,by omega,by omega,hown,hb,?_⟩
          show _=_
          rw [HS,Tw.Ct,if_pos (by rw [HL]; exact hlt),HG,if_pos hgp]
        case measure=>go_light; simp [intOf]; omega
      · by_cases hz:len=0
        · go_wp2_with (first | (go_at_call 79; refine (zdo hIB _ _ (by omega) (by omega)).mono ?_; rintro e w' ⟨rfl,rfl⟩; rw [HD,HG]) | (go_at_call 80; refine (zcn _ _ (by omega) (by omega)).mono ?_; rintro e w' ⟨rfl,rfl⟩; rw [HD,HF]))
          go_ret3
          go_light
          refine ⟨hb,?_⟩
          rw [HS,Tw.Ct,if_pos (by rw [HL]; exact hlt),HG,if_neg (by omega),HF,if_pos hz]
          rfl
        · have hz':(len==0)=false:=by simp [hz]
          go_wp2_with (first
            | (go_at_call 79; refine (zdo hIB _ _ (by omega) (by omega)).mono ?_; rintro e w' ⟨rfl,rfl⟩; rw [HD,HG])
            | (go_at_call 80; refine (zcn _ _ (by omega) (by omega)).mono ?_; rintro e w' ⟨rfl,rfl⟩; rw [HD,HF])
            | (at_builtin; refine wpList_append_own _ rfl _ _ 106 rfl w.heap.size 176 i0 (.agg #[.int .i64 0,.int .i64 0,.int .i64 0]) 3 24 Tryz.underlying106 hi hz0 hz1 hz2 rfl (by decide) _ _ _ rfl (hown.alloc _) ⟨wr.heap.size,0,none⟩ 1 1 [.int .i64 srt,.int .i64 k,.int .i64 (k+len)] rfl rfl (Dp _ _ _ _ _) (by intro u hu; simp at hu; rcases hu with rfl | rfl | rfl <;> rfl) (by unfold maxLen; omega) (by omega) (by have:=hb.size; simp; omega) ?_; intro v3 w3 hown3 hgrow3 hnil3
               have hb3:=Below.grown (hb.alloc hb.size _) hgrow3 (by have:=hb.size; simp; omega) (fun j hj=>(hown.lt _ hj).1)
               have X:Aside (w3.ownsRow w.heap.size 176 3 v3 (acc.length+1) (Cx acc ++ [.int .i64 srt,.int .i64 k,.int .i64 (k+len)])/\Below w.heap.size w w3):=⟨hown3,hb3⟩
               clear hown3 hgrow3 hnil3 hb3))
          go_roundw
          case rel =>
            go_light
            refine ⟨k+len.toNat,fuel,acc ++ [⟨srt,k,k+len.toNat⟩],Ml (by omega),by omega,?_,?_,?_,X.2,?_⟩
            · have:len≠0:=by simpa using hz'
              omega
            · have:len≠0:=by simpa using hz'
              simp; omega
            · rw [Pp,List.length_append]
              have e:Cx [(⟨srt,k,k+len.toNat⟩:Tw.Tok)]=[.int .i64 srt,.int .i64 k,.int .i64 (k+len)]:=by
                simp [Cx,Wn]; omega
              rw [e]
              exact X.1
            · show _=_
              rw [HS,Tw.Ct,if_pos (by rw [HL]; exact hlt),HG,if_neg (by omega),HF,if_neg (by simpa using hz')]
          case measure => go_light; have:len≠0:=by simpa using hz'
                          simp [intOf]; omega
    · have HL:=hl
      go_wp2_with (at_builtin; refine wpList_append_own _ rfl _ _ 106 rfl w.heap.size 176 i0 (.agg #[.int .i64 0,.int .i64 0,.int .i64 0]) 3 24 Tryz.underlying106 hi hz0 hz1 hz2 rfl (by decide) _ _ _ rfl (hown.alloc _) ⟨wr.heap.size,0,none⟩ 1 1 [.int .i64 0,.int .i64 k,.int .i64 k] rfl rfl (Dp _ _ _ _ _) (by intro u hu; simp at hu; rcases hu with rfl | rfl | rfl <;> rfl) (by unfold maxLen; omega) (by omega) (by have:=hb.size; simp; omega) ?_; intro v3 w3 hown3 hgrow3 hnil3
                   have hb3:=Below.grown (hb.alloc hb.size _) hgrow3 (by have:=hb.size; simp; omega) (fun j hj=>(hown.lt _ hj).1)
                   have X:Aside (w3.ownsRow w.heap.size 176 3 v3 (acc.length+1) (Cx acc ++ [.int .i64 0,.int .i64 k,.int .i64 k])/\Below w.heap.size w w3):=⟨hown3,hb3⟩
                   clear hown3 hgrow3 hnil3 hb3)
      go_ret3
      go_light
      refine ⟨X.2,?_⟩
      rw [HS,Tw.Ct,if_neg (by rw [HL]; omega)]
      refine ⟨_,rfl,?_⟩
      rw [Pp,List.length_append]
      exact X.1
end
end Go.Proofs.YtckhafpejefbbaaGreatDoor
