/- Texts of the proof, put together: Words, WordsRun, SplitTw, Split. -/
import Derived.Test.YtckhafpejefbbaaGreatDoorProg
import Derived.Test.YtckhafpejefbbaaGreatDoorB02
import Derived.WalkKit
import Derived.WalkSpells
import Derived.WalkLawsBesides
import Derived.Deep.Light
import Derived.Lib.IndexBytes

set_option maxRecDepth 100000
set_option maxHeartbeats 4000000
namespace Go.Proofs.YtckhafpejefbbaaGreatDoor
open Go.RowKit
theorem zc5 {a b:Bool} (h:a=b):Ending.returned (.bool a) = .returned (.bool b):=by rw [h]
theorem zdt {k:IntKind} {a b:Int} (h:a=b):Ending.returned (.int k a) = .returned (.int k b):=by rw [h]
theorem zi3 {k j:IntKind} {a b c d:Int} (h:a=b) (g:c=d):Ending.returned (.tuple #[.int k a,.int j c]) = .returned (.tuple #[.int k b,.int j d]):=by rw [h,g]
theorem zgd (c:Int) (w:World) (h0:0<=c) (h1:c<=255) :
  Calls Tryz.prog 147 #[.int .u8 c] w fun e w'=>e = .returned (.bool (Tw.zbh c))/\w=w':=by
 go_enter Tryz.func147,Tryz.ntmps147
 go_wp2
 all_goals (go_ret; exact ⟨zc5 (by simp [Tw.zbh]; omega),rfl⟩)
theorem zed (c:Int) (w:World) (h0:0<=c) (h1:c<=255) :
  Calls Tryz.prog 151 #[.int .u8 c] w fun e w'=>e = .returned (.bool (Tw.zas c))/\w=w':=by
 go_enter Tryz.func151,Tryz.ntmps151
 go_wp2
 all_goals (go_ret; exact ⟨zc5 (by simp [Tw.zas]; omega),rfl⟩)
theorem zjx (c:Int) (w:World) (h0:0<=c) (h1:c<=255) :
  Calls Tryz.prog 150 #[.int .u8 c] w fun e w'=>e = .returned (.bool (Tw.zbg c))/\w=w':=by
 go_enter Tryz.func150,Tryz.ntmps150
 cases hs:Tw.zbh c
 ·go_wp2_with (first | (go_at_call 147; refine (zgd _ _ h0 h1).mono ?_; rintro e w' ⟨rfl,rfl⟩; rw [hs]) | (go_at_call 151; refine (zed _ _ h0 h1).mono ?_; rintro e w' ⟨rfl,rfl⟩))
  go_ret
  exact ⟨zc5 (by simp [Tw.zbh] at hs; simp [Tw.zbg,Tw.zas]; omega),rfl⟩
 ·go_wp2_with (first | (go_at_call 147; refine (zgd _ _ h0 h1).mono ?_; rintro e w' ⟨rfl,rfl⟩; rw [hs]) | (go_at_call 151; refine (zed _ _ h0 h1).mono ?_; rintro e w' ⟨rfl,rfl⟩))
  go_ret
  exact ⟨zc5 (by simp [Tw.zbh] at hs; simp [Tw.zbg]; omega),rfl⟩
theorem yby (c:Int) (w:World) :
  Calls Tryz.prog 154 #[.int .u8 c] w fun e w'=>e = .returned (.tuple #[.int .i64 (Tw.zfw c).1,.int .i64 (Tw.zfw c).2])/\w=w':=by
 go_enter Tryz.func154,Tryz.ntmps154
 go_wp2
 all_goals (go_ret2; exact ⟨by simp_all [Tw.zfw],rfl⟩)
theorem zss (s:ByteArray) (w:World) :
    Calls Tryz.prog 199 #[.string s] w fun e w'=>e = .returned (.int .i64 (Tw.zf6 s.data.toList))/\w=w':=by
  go_enter Tryz.func199,Tryz.ntmps199
  go_wp2
  all_goals (go_ret; go_light; exact ⟨zdt (by simp only [beq_iff_eq,beq_eq_false_iff_ne,ne_eq,Lib.toList_data] at *; simp [Tw.zf6, *]),rfl⟩)
theorem ybz (s:ByteArray) (w:World) (hs:s.size<=300) :
  Calls Tryz.prog 148 #[.string s] w fun e w'=>e = .returned (.tuple #[.int .i64 (Tw.zh5 s.data.toList).1,.int .i64 (Tw.zh5 s.data.toList).2])/\w=w':=by
 have hl:s.data.toList.length=s.size:=rfl
 by_cases h:s.size<=6
 ·go_enter Tryz.func148,Tryz.ntmps148
  go_wp2_with (go_at_call 199; refine (zss _ _).mono ?_; rintro e w' ⟨rfl,rfl⟩)
  go_ret2
  exact ⟨zi3 (by rw [Tw.zh5,if_neg (by omega)]) (by rw [Tw.zh5,if_neg (by omega)]; rfl),rfl⟩
 ·go_enter Tryz.func148,Tryz.ntmps148
  go_wp2_with fail
  go_ret2
  exact ⟨zi3 (by rw [Tw.zh5,if_pos (by omega)]) (by rw [Tw.zh5,if_pos (by omega)]),rfl⟩
theorem zwd (s:ByteArray) (w:World) (hs:s.size<=300) :
  Calls Tryz.prog 152 #[.string s] w fun e w'=>e = .returned (.tuple #[.int .i64 (Tw.zdm s.data.toList).1,.int .i64 (Tw.zdm s.data.toList).2])/\w=w':=by
 have hl:s.data.toList.length=s.size:=rfl
 by_cases h:s.size<=9
 ·go_enter Tryz.func152,Tryz.ntmps152
  go_wp2_with fail
  go_ret2
  exact ⟨zi3 (by rw [Tw.zdm,if_neg (by omega)]) (by rw [Tw.zdm,if_neg (by omega)]; rfl),rfl⟩
 ·go_enter Tryz.func152,Tryz.ntmps152
  go_wp2_with fail
  go_ret2
  exact ⟨zi3 (by rw [Tw.zdm,if_pos (by omega)]) (by rw [Tw.zdm,if_pos (by omega)]),rfl⟩
def Said.IndexByte:Prop:=∀(s:ByteArray) (c:Int) (w:World),
  Calls Tryz.prog 146 #[.string s,.int .u8 c] w fun e w'=>e = .returned (.int .i64 (Lib.indexByte s.data.toList c.toNat.toUInt8))/\w=w'
theorem zst (hIB:Said.IndexByte) (s:ByteArray) (w:World) (h0:0<s.size) (h1:s.size<=300) :
  Calls Tryz.prog 79 #[.string s] w fun e w'=>e = .returned (.int .i64 (Tw.gapL s.data.toList))/\w=w':=by
 have hh:=Tw.zk1 s h0
 have H:Hid (Tw.zam s.data.toList=s[0].toNat):=hh
 clear hh
 have hb:=Tw.zmo s.data.toList 125
 have hl:s.data.toList.length=s.size:=rfl
 rw [hl] at hb
 obtain ⟨hb1,hb2⟩:=hb
 clear hl
 go_enter Tryz.func79,Tryz.ntmps79
 go_wp2_with (go_at_call 146; refine (hIB _ _ _).mono ?_; rintro e w' ⟨rfl,rfl⟩)
 all_goals (go_ret; go_light; exact ⟨zdt (by have:=H.out; simp_all [Tw.gapL]),rfl⟩)
open Go.RowKit
theorem zr3 (p:Int->Bool) (l:List UInt8) (k:Nat) (h:k<l.length) (hk:∀j (hj:j<k),p (l[j]'(by omega)).toNat=true) :
  (p l[k].toNat=false->Tw.runL p l=l.take k):=by
 intro hp
 unfold Tw.runL
 conv=>lhs; rw [<-List.take_append_drop k l]
 rw [List.takeWhile_append_of_pos]
 ·have hd:l.drop k=l[k]::l.drop (k+1):=by rw [List.drop_eq_getElem_cons h]
  rw [hd,List.takeWhile_cons_of_neg (by simp [hp])]
  simp
 ·intro a ha
  obtain ⟨j,hj,rfl⟩:=List.getElem_of_mem ha
  rw [List.getElem_take]
  exact hk j (by simp at hj; omega)
theorem zll {α : Type} (p : α -> Bool):∀(l:List α),(∀a∈l,p a=true)->l.takeWhile p=l
 | [],_=>rfl
 | a::l,h=>by
  rw [List.takeWhile_cons_of_pos (h a (by simp)),zll p l fun b hb=>h b (by simp [hb])]
theorem zfe (p:Int->Bool) (l:List UInt8) (hk:∀j (hj:j<l.length),p l[j].toNat=true):Tw.runL p l=l:=by
 unfold Tw.runL
 refine zll _ _ fun a ha => ?_
 obtain ⟨j,hj,rfl⟩:=List.getElem_of_mem ha
 exact hk j hj
theorem zwe {a b:ByteArray} (h:a.data.toList=b.data.toList):a=b:=by
 obtain ⟨⟨l⟩⟩:=a
 obtain ⟨⟨m⟩⟩:=b
 simp at h
 rw [h]
theorem zgv (s:ByteArray) (k:Nat):s.extract 0 k=⟨(s.data.toList.take k).toArray⟩:=by
 apply zwe
 rw [Lib.extract_data]
 simp
theorem zpp {a b:ByteArray} (h:a=b):Ending.returned (.string a) = .returned (.string b):=by rw [h]
theorem yb0 (s:ByteArray) (w:World) (h1:s.size<=300) :
  Calls Tryz.prog 149 #[.string s,.func (.func 150) #[] #[]] w fun e w'=>e = .returned (.string ⟨(Tw.runL Tw.zbg s.data.toList).toArray⟩)/\w=w':=by
 go_enter Tryz.func149,Tryz.ntmps149
 go_wp2_with fail
 go_loop [5] (fun i=>∃k:Nat,k<=s.size/\i = .int .i64 k/\∀j (hj:j<s.data.toList.length),j<k->Tw.zbg (s.data.toList[j]).toNat=true) (fun i=>s.size-(intOf i).toNat)
 case atStart=>exact ⟨0,by omega,rfl,by omega⟩
 case round =>
  obtain ⟨k,hk,rfl,hall⟩:=hrel
  have HA:Hid (∀j (hj:j<s.data.toList.length),j<k->Tw.zbg (s.data.toList[j]).toNat=true):=hall
  clear hall
  by_cases hlt:k<s.size
  ·cases hp:Tw.zbg s[k].toNat
   ·go_wp2_with (go_at_call 150; refine (zjx _ _ (by omega) (by have:=s[k].toNat_lt; omega)).mono ?_; rintro e w' ⟨rfl,rfl⟩)
    go_ret
    go_light
    refine ⟨zpp ?_,rfl⟩
    rw [zgv,zr3 Tw.zbg s.data.toList k hlt (fun j hj=>HA.out j _ hj) hp]
   ·go_wp2_with (go_at_call 150; refine (zjx _ _ (by omega) (by have:=s[k].toNat_lt; omega)).mono ?_; rintro e w' ⟨rfl,rfl⟩)
    go_round
    case rel =>
     go_light
     refine ⟨k+1,by omega,by go_num,fun j hj hjk => ?_⟩
     by_cases h:j<k
     ·exact HA.out j hj h
     ·have:j=k:=by omega
      subst this
      exact hp
    case measure=>go_light; simp [intOf]; omega
  ·go_wp2_with fail
   go_ret
   go_light
   refine ⟨zpp ?_,rfl⟩
   have hks:k=s.size:=by omega
   rw [zgv,zfe Tw.zbg s.data.toList (fun j hj=>HA.out j hj (by rw [hks]; exact hj)),hks]
   rw [List.take_of_length_le (show s.data.toList.length<=s.size from znL _)]
theorem zzr (s:ByteArray) (w:World) (h1:s.size<=300) :
  Calls Tryz.prog 149 #[.string s,.func (.func 151) #[] #[]] w fun e w'=>e = .returned (.string ⟨(Tw.runL Tw.zas s.data.toList).toArray⟩)/\w=w':=by
 go_enter Tryz.func149,Tryz.ntmps149
 go_wp2_with fail
 go_loop [5] (fun i=>∃k:Nat,k<=s.size/\i = .int .i64 k/\∀j (hj:j<s.data.toList.length),j<k->Tw.zas (s.data.toList[j]).toNat=true) (fun i=>s.size-(intOf i).toNat)
 case atStart=>exact ⟨0,by omega,rfl,by omega⟩
 case round =>
  obtain ⟨k,hk,rfl,hall⟩:=hrel
  have HA:Hid (∀j (hj:j<s.data.toList.length),j<k->Tw.zas (s.data.toList[j]).toNat=true):=hall
  clear hall
  by_cases hlt:k<s.size
  ·cases hp:Tw.zas s[k].toNat
   ·go_wp2_with (go_at_call 151; refine (zed _ _ (by omega) (by have:=s[k].toNat_lt; omega)).mono ?_; rintro e w' ⟨rfl,rfl⟩)
    go_ret
    go_light
    refine ⟨zpp ?_,rfl⟩
    rw [zgv,zr3 Tw.zas s.data.toList k hlt (fun j hj=>HA.out j _ hj) hp]
   ·go_wp2_with (go_at_call 151; refine (zed _ _ (by omega) (by have:=s[k].toNat_lt; omega)).mono ?_; rintro e w' ⟨rfl,rfl⟩)
    go_round
    case rel =>
     go_light
     refine ⟨k+1,by omega,by go_num,fun j hj hjk => ?_⟩
     by_cases h:j<k
     ·exact HA.out j hj h
     ·have:j=k:=by omega
      subst this
      exact hp
    case measure=>go_light; simp [intOf]; omega
  ·go_wp2_with fail
   go_ret
   go_light
   refine ⟨zpp ?_,rfl⟩
   have hks:k=s.size:=by omega
   rw [zgv,zfe Tw.zas s.data.toList (fun j hj=>HA.out j hj (by rw [hks]; exact hj)),hks]
   rw [List.take_of_length_le (show s.data.toList.length<=s.size from znL _)]
theorem zr4 (p:Int->Bool) (s:ByteArray) (h:s.size<=300):(⟨(Tw.runL p s.data.toList).toArray⟩:ByteArray).size<=300:=by
 have:=(List.takeWhile_sublist (fun c:UInt8=>p c.toNat) (l:=s.data.toList)).length_le
 have e:(⟨(Tw.runL p s.data.toList).toArray⟩:ByteArray).size=(Tw.runL p s.data.toList).length:=by simp [ByteArray.size]
 have g:s.data.toList.length=s.size:=rfl
 unfold Tw.runL at e ⊢
 omega
theorem zwf (s:ByteArray) (w:World) (h0:0<s.size) (h1:s.size<=300) (hs:Tw.zbh s[0].toNat=true) :
  Calls Tryz.prog 80 #[.string s] w fun e w'=>e = .returned (.tuple #[.int .i64 (Tw.zah s.data.toList).1,.int .i64 (Tw.zah s.data.toList).2])/\w=w':=by
 have H:Hid (Tw.zam s.data.toList=s[0].toNat):=Tw.zk1 s h0
 have hc:=s[0].toNat_lt
 go_enter Tryz.func80,Tryz.ntmps80
 go_wp2_with (first | (go_at_call 147; refine (zgd _ _ (by omega) (by omega)).mono ?_; rintro e w' ⟨rfl,rfl⟩) | (go_at_call 149; refine (yb0 _ _ h1).mono ?_; rintro e w' ⟨rfl,rfl⟩) | (go_at_call 148; refine (ybz _ _ (zr4 _ _ h1)).mono ?_; rintro e w' ⟨rfl,rfl⟩))
 go_ret2
 go_light
 refine ⟨zi3 ?_ ?_,rfl⟩ <;> simp [Tw.zah,H.out,hs]
theorem zsu (s:ByteArray) (w:World) (h0:0<s.size) (h1:s.size<=300) (hs:Tw.zbh s[0].toNat=false) (hd:Tw.zas s[0].toNat=true) :
  Calls Tryz.prog 80 #[.string s] w fun e w'=>e = .returned (.tuple #[.int .i64 (Tw.zah s.data.toList).1,.int .i64 (Tw.zah s.data.toList).2])/\w=w':=by
 have H:Hid (Tw.zam s.data.toList=s[0].toNat):=Tw.zk1 s h0
 have hc:=s[0].toNat_lt
 go_enter Tryz.func80,Tryz.ntmps80
 go_wp2_with (first | (go_at_call 147; refine (zgd _ _ (by omega) (by omega)).mono ?_; rintro e w' ⟨rfl,rfl⟩) | (go_at_call 151; refine (zed _ _ (by omega) (by omega)).mono ?_; rintro e w' ⟨rfl,rfl⟩) | (go_at_call 149; refine (zzr _ _ h1).mono ?_; rintro e w' ⟨rfl,rfl⟩) | (go_at_call 152; refine (zwd _ _ (zr4 _ _ h1)).mono ?_; rintro e w' ⟨rfl,rfl⟩))
 go_ret2
 go_light
 refine ⟨zi3 ?_ ?_,rfl⟩ <;> simp [Tw.zah,H.out,hs,hd]
theorem zsv (s:ByteArray) (w:World) (h0:0<s.size) (h1:s.size<=300) :
  Calls Tryz.prog 153 #[.string s,.string ⟨#[45,62]⟩] w fun e w'=>e = .returned (.bool (decide (s.data.toList.take 2=[45,62])))/\w=w':=by
 by_cases h2:2<=s.size
 ·go_enter Tryz.func153,Tryz.ntmps153
  go_wp2
  go_ret
  go_light
  refine ⟨zc5 ?_,rfl⟩
  rw [Lib.extract_toList]
  rw [Bool.eq_iff_iff]; simp
 ·go_enter Tryz.func153,Tryz.ntmps153
  go_wp2
  go_ret
  go_light
  refine ⟨zc5 ?_,rfl⟩
  have hl:s.data.toList.length=s.size:=rfl
  symm
  rw [decide_eq_false_iff_not]
  intro hh
  have:=congrArg List.length hh
  simp at this
  omega
theorem zwg (s:ByteArray) (w:World) (h0:0<s.size) (h1:s.size<=300) (hs:Tw.zbh s[0].toNat=false) (hd:Tw.zas s[0].toNat=false) :
  Calls Tryz.prog 80 #[.string s] w fun e w'=>e = .returned (.tuple #[.int .i64 (Tw.zah s.data.toList).1,.int .i64 (Tw.zah s.data.toList).2])/\w=w':=by
 have H:Hid (Tw.zam s.data.toList=s[0].toNat):=Tw.zk1 s h0
 have hc:=s[0].toNat_lt
 cases ha:decide (s.data.toList.take 2=[45,62])
 all_goals
  have HB:Hid (decide (s.data.toList.take 2=[45,62])=_):=ha
  clear ha
  go_enter Tryz.func80,Tryz.ntmps80
  go_wp2_with (first | (go_at_call 147; refine (zgd _ _ (by omega) (by omega)).mono ?_; rintro e w' ⟨rfl,rfl⟩) | (go_at_call 151; refine (zed _ _ (by omega) (by omega)).mono ?_; rintro e w' ⟨rfl,rfl⟩) | (go_at_call 153; refine (zsv _ _ h0 h1).mono ?_; rintro e w' ⟨rfl,rfl⟩; rw [HB.out]) | (go_at_call 154; refine (yby _ _).mono ?_; rintro e w' ⟨rfl,rfl⟩))
  go_ret2
  go_light
  have:=HB.out
  simp at this
  refine ⟨zi3 ?_ ?_,rfl⟩ <;> simp [Tw.zah,H.out,hs,hd,this]
theorem zn1 (s:ByteArray) (w:World) (h0:0<s.size) (h1:s.size<=300) :
  Calls Tryz.prog 80 #[.string s] w fun e w'=>e = .returned (.tuple #[.int .i64 (Tw.zah s.data.toList).1,.int .i64 (Tw.zah s.data.toList).2])/\w=w':=by
 cases hs:Tw.zbh s[0].toNat
 ·cases hd:Tw.zas s[0].toNat
  ·exact zwg s w h0 h1 hs hd
  ·exact zsu s w h0 h1 hs hd
 ·exact zwf s w h0 h1 hs
end Go.Proofs.YtckhafpejefbbaaGreatDoor
namespace Go.Proofs.YtckhafpejefbbaaGreatDoor.Tw
open Go
structure Tok where
 sort:Int
 fr:Nat
 to:Nat
 deriving DecidableEq
def zcs (l:List UInt8):Nat->Nat->List Tok->Except Nat (List Tok)
 | 0,k,_=>.error k
 | fuel+1,k,acc =>
  if k<l.length then
   if 0<gapL (l.drop k) then zcs l fuel (k+(gapL (l.drop k)).toNat) acc
   else if (zah (l.drop k)).2=0 then .error k
   else zcs l fuel (k+(zah (l.drop k)).2.toNat) (acc ++ [⟨(zah (l.drop k)).1,k,k+(zah (l.drop k)).2.toNat⟩])
  else .ok (acc ++ [⟨0,k,k⟩])
def split (l:List UInt8):Except Nat (List Tok):=zcs l (l.length+1) 0 []
theorem zex (l:List UInt8) (h:0<l.length):0<=gapL l/\gapL l<=l.length:=by
 unfold gapL
 have:=zmo l 125
 split
 ·omega
 ·split <;> omega
theorem zsw (p:Int->Bool) (l:List UInt8):(runL p l).length<=l.length :=
 (List.takeWhile_sublist (fun c:UInt8=>p c.toNat) (l:=l)).length_le
theorem yb1 (c:Int):0<=(zfw c).2/\(zfw c).2<=1:=by
 unfold zfw
 repeat' split
 all_goals simp
theorem zde (l:List UInt8) (h:0<l.length):0<=(zah l).2/\(zah l).2<=l.length:=by
 have hw:=zsw zbg l
 have hd:=zsw zas l
 have hs:=yb1 (zam l)
 unfold zah
 split
 ·unfold zh5; split <;> simp; omega
 ·split
  ·unfold zdm; split <;> simp; omega
  ·split
   ·rename_i ha
    have:=congrArg List.length ha
    simp at this
    simp; omega
   ·omega
end Go.Proofs.YtckhafpejefbbaaGreatDoor.Tw
namespace Go.Proofs.YtckhafpejefbbaaGreatDoor
open Go.RowKit
def znu (t:Tw.Tok):List Value:=[.int .i64 t.sort,.int .i64 t.fr,.int .i64 t.to]
def zbs:List Tw.Tok->List Value
 | []=>[]
 | t::l=>znu t++zbs l
theorem zim (a b:List Tw.Tok):zbs (a++b)=zbs a++zbs b:=by
 induction a with
 | nil=>rfl
 | cons t a ih=>simp [zbs,ih]
theorem zcl (w:World) (a b c:Value) (t:TypeId):∀j u,[a,b,c][j]? = some u->(w.alloc (.cells #[a,b,c] t)).cell? ((⟨w.heap.size,0,none⟩:Addr).add j)=some u:=by
 intro j u hj
 match j,hj with
 | 0,hj=>simp at hj; subst hj; simp [Addr.add]
 | 1,hj=>simp at hj; subst hj; simp [Addr.add]
 | 2,hj=>simp at hj; subst hj; simp [Addr.add]
 | j+3,hj=>simp at hj
theorem zzs (s:ByteArray) (k:Nat):(s.extract k s.size).data.toList=s.data.toList.drop k:=Lib.extract_to_end s k
theorem zzt (s:ByteArray) (k:Nat):(s.extract k s.size).size=s.size-k:=by
 simp [ByteArray.size_extract]
theorem Tryz.info176:(Tryz.prog.info? 176).map (fun i=>(i.zero,i.size,i.bytes))=some (some (.agg #[.int .i64 0,.int .i64 0,.int .i64 0]),3,24):=by kernel_rfl
def ybx (s:ByteArray) (w:World) (e:Ending) (w':World):Prop:=Below w.heap.size w w' /\
   match Tw.split s.data.toList with
   | .error k=>e = .returned (.tuple #[.slice none 0 0,.int .i64 k,.bool false])
   | .ok ts=>∃v,e = .returned (.tuple #[v,.int .i64 0,.bool true])/\w'.ownsRow w.heap.size 176 3 v ts.length (zbs ts)
theorem zsx {k:IntKind} {a b:Int} (h:a=b):Value.int k a = .int k b:=by rw [h]
theorem zk2 (hIB:Said.IndexByte) (s:ByteArray) (w:World) (h1:s.size<=300) :
    Calls Tryz.prog 46 #[.string s] w (ybx s w):=by
  obtain ⟨i0,hi,hz0,hz1,hz2⟩:=info_parts Tryz.info176
  go_enter Tryz.func46,Tryz.ntmps46
  go_wp2_with fail
  go_loopw [5,6] (fun v i wr=>∃(k fuel:Nat) (acc:List Tw.Tok),i = .int .i64 k/\k<=s.size/\s.size<k+fuel/\acc.length<=k/\wr.ownsRow w.heap.size 176 3 v acc.length (zbs acc)/\Below w.heap.size w wr/\Hid (Tw.split s.data.toList=Tw.zcs s.data.toList fuel k acc)) (fun _ i _=>s.size-(intOf i).toNat)
  case atStart=>exact ⟨0,s.size+1,[],rfl,by omega,by omega,by simp,World.ownsRow_nil _ _ _ _,Below.refl _ _,rfl⟩
  case round =>
    obtain ⟨k,fuel,acc,rfl,hk,hf,ha,hown,hb,HS⟩:=hrel
    obtain ⟨fuel,rfl⟩:∃f',fuel=f'+1:=⟨fuel-1,by omega⟩
    have hl:s.data.toList.length=s.size:=rfl
    by_cases hlt:k<s.size
    · have hds:=zzt s k
      have hdl:=zzs s k
      have HD:Hid ((s.extract k s.size).data.toList=s.data.toList.drop k):=hdl
      have HL:Hid (s.data.toList.length=s.size):=hl
      have g0:=Tw.zex (s.data.toList.drop k) (by simp; omega)
      have f0:=Tw.zde (s.data.toList.drop k) (by simp; omega)
      rw [List.length_drop,hl] at g0 f0
      generalize hG:Tw.gapL (s.data.toList.drop k)=G at *
      generalize hF:Tw.zah (s.data.toList.drop k)=F at *
      obtain ⟨srt,len⟩:=F
      have HG:Hid (Tw.gapL (s.data.toList.drop k)=G):=hG
      have HF:Hid (Tw.zah (s.data.toList.drop k)=(srt,len)):=hF
      clear hG hF hdl hl
      simp only at f0
      obtain ⟨g1,g2⟩:=g0
      obtain ⟨f1,f2⟩:=f0
      by_cases hgp:0<G
      · go_wp2_with (go_at_call 79; refine (zst hIB _ _ (by omega) (by omega)).mono ?_; rintro e w' ⟨rfl,rfl⟩; rw [HD.out,HG.out])
        go_roundw
        case rel =>
          go_light
          refine ⟨k+G.toNat,fuel,acc,zsx (by omega),by omega,by omega,by omega,hown,hb,?_⟩
          show _=_
          rw [HS.out,Tw.zcs,if_pos (by rw [HL.out]; exact hlt),HG.out,if_pos hgp]
        case measure=>go_light; simp [intOf]; omega
      · by_cases hz:len=0
        · go_wp2_with (first | (go_at_call 79; refine (zst hIB _ _ (by omega) (by omega)).mono ?_; rintro e w' ⟨rfl,rfl⟩; rw [HD.out,HG.out]) | (go_at_call 80; refine (zn1 _ _ (by omega) (by omega)).mono ?_; rintro e w' ⟨rfl,rfl⟩; rw [HD.out,HF.out]))
          go_ret3
          go_light
          refine ⟨hb,?_⟩
          rw [HS.out,Tw.zcs,if_pos (by rw [HL.out]; exact hlt),HG.out,if_neg (by omega),HF.out,if_pos hz]
          rfl
        · have hz':(len==0)=false:=by simp [hz]
          clear hz
          go_wp2_with (first
            | (go_at_call 79; refine (zst hIB _ _ (by omega) (by omega)).mono ?_; rintro e w' ⟨rfl,rfl⟩; rw [HD.out,HG.out])
            | (go_at_call 80; refine (zn1 _ _ (by omega) (by omega)).mono ?_; rintro e w' ⟨rfl,rfl⟩; rw [HD.out,HF.out])
            | (at_builtin; refine wpList_append_own _ rfl _ _ 106 rfl w.heap.size 176 i0 (.agg #[.int .i64 0,.int .i64 0,.int .i64 0]) 3 24 Tryz.underlying106 hi hz0 hz1 hz2 rfl (by decide) _ _ _ rfl (hown.alloc _) ⟨wr.heap.size,0,none⟩ 1 1 [.int .i64 srt,.int .i64 k,.int .i64 (k+len)] rfl rfl (zcl _ _ _ _ _) (by intro u hu; simp at hu; rcases hu with rfl | rfl | rfl <;> rfl) (by unfold maxLen; omega) (by omega) (by have:=hb.size; simp; omega) ?_; intro v3 w3 hown3 hgrow3 hnil3
               have hb3:Below w.heap.size w w3:=Below.grown (hb.alloc hb.size _) hgrow3 (by have:=hb.size; simp; omega) (fun j hj=>(hown.lt _ hj).1)
               have X:Aside (w3.ownsRow w.heap.size 176 3 v3 (acc.length+1) (zbs acc ++ [.int .i64 srt,.int .i64 k,.int .i64 (k+len)])/\Below w.heap.size w w3):=⟨hown3,hb3⟩
               clear hown3 hgrow3 hnil3 hb3))
          go_roundw
          case rel =>
            go_light
            refine ⟨k+len.toNat,fuel,acc ++ [⟨srt,k,k+len.toNat⟩],zsx (by omega),by omega,?_,?_,?_,X.out.2,?_⟩
            · have:len≠0:=by simpa using hz'
              omega
            · have:len≠0:=by simpa using hz'
              simp; omega
            · rw [zim,List.length_append]
              have e:zbs [(⟨srt,k,k+len.toNat⟩:Tw.Tok)]=[.int .i64 srt,.int .i64 k,.int .i64 (k+len)]:=by
                simp [zbs,znu]; omega
              rw [e]
              exact X.out.1
            · show _=_
              rw [HS.out,Tw.zcs,if_pos (by rw [HL.out]; exact hlt),HG.out,if_neg (by omega),HF.out,if_neg (by simpa using hz')]
          case measure => go_light; have:len≠0:=by simpa using hz'
                          simp [intOf]; omega
    · have HL:Hid (s.data.toList.length=s.size):=hl
      clear hl
      go_wp2_with (at_builtin; refine wpList_append_own _ rfl _ _ 106 rfl w.heap.size 176 i0 (.agg #[.int .i64 0,.int .i64 0,.int .i64 0]) 3 24 Tryz.underlying106 hi hz0 hz1 hz2 rfl (by decide) _ _ _ rfl (hown.alloc _) ⟨wr.heap.size,0,none⟩ 1 1 [.int .i64 0,.int .i64 k,.int .i64 k] rfl rfl (zcl _ _ _ _ _) (by intro u hu; simp at hu; rcases hu with rfl | rfl | rfl <;> rfl) (by unfold maxLen; omega) (by omega) (by have:=hb.size; simp; omega) ?_; intro v3 w3 hown3 hgrow3 hnil3
                   have hb3:Below w.heap.size w w3:=Below.grown (hb.alloc hb.size _) hgrow3 (by have:=hb.size; simp; omega) (fun j hj=>(hown.lt _ hj).1)
                   have X:Aside (w3.ownsRow w.heap.size 176 3 v3 (acc.length+1) (zbs acc ++ [.int .i64 0,.int .i64 k,.int .i64 k])/\Below w.heap.size w w3):=⟨hown3,hb3⟩
                   clear hown3 hgrow3 hnil3 hb3)
      go_ret3
      go_light
      refine ⟨X.out.2,?_⟩
      rw [HS.out,Tw.zcs,if_neg (by rw [HL.out]; omega)]
      refine ⟨_,rfl,?_⟩
      rw [zim,List.length_append]
      exact X.out.1
end Go.Proofs.YtckhafpejefbbaaGreatDoor
