import Derived.Shelf.Small.Strs
import Derived.Shelf.Small.Wraps
import Derived.Shelf.Strings.BuilderK
import Derived.Shelf.Strconv.Itoa4
import Derived.Shelf.Strconv.ErrVarParseInt
import Derived.Test.YtckhafpejefbbaaGreatDoorProg

set_option maxRecDepth 100000
set_option maxHeartbeats 4000000
/- The contracts of four functions of the library at this program, by the tools of the shelf. -/
namespace Go.Proofs
section
open Go.Shelf
def Tryz.lays137_ren:Go.Shelf.Ren:=⟨fun | 137=>146 | 217=>198 | 266=>216 | n=>n,fun | 9=>9 | 5=>5 | 3=>3 | n=>n,fun | n=>n⟩
theorem Tryz.lays137:Go.Proofs.Lays.n137 Tryz.prog Tryz.lays137_ren:=by constructor <;> intros <;> kernel_rfl
open Go.RowKit in
theorem Tryz.strings_IndexByte (s:ByteArray) (c:Int) (w:World) :
  Calls Tryz.prog 146 #[.string s,.int .u8 c] w fun e w'=>e = .returned (.int .i64 (Lib.indexByte s.data.toList c.toNat.toUInt8))∧w'=w:=Any.strings_IndexByte Tryz.lays137 s c w
def Tryz.lays121_ren:Go.Shelf.Ren:=⟨fun | 121=>174 | 214=>210 | n=>n,fun | 4=>4 | 9=>9 | n=>n,fun | n=>n⟩
theorem Tryz.lays121:Go.Proofs.Lays.n121 Tryz.prog Tryz.lays121_ren:=by constructor <;> intros <;> kernel_rfl
open Go.RowKit in
theorem Tryz.strconv_FormatBool (b:Bool) (w:World) :
  Calls Tryz.prog 174 #[.bool b] w fun e w'=>e = .returned (.string ⟨(Lib.formatBool b).toArray⟩)∧w'=w:=Any.strconv_FormatBool Tryz.lays121 b w
def Tryz.lays171_ren:Go.Shelf.Ren:=⟨fun | 171=>211 | 243=>223 | 246=>209 | 283=>219 | 284=>220 | 285=>221 | 286=>222 | 129=>227 | 317=>226 | 318=>228 | 319=>229 | 320=>230 | 337=>235 | 338=>236 | n=>n,fun | 3=>3 | 9=>9 | 2=>2 | 4=>4 | 171=>371 | 0=>0 | 53=>372 | 37=>66 | 5=>5 | 173=>375 | 212=>378 | 51=>379 | 20=>20 | 213=>380 | 46=>381 | 232=>386 | 233=>387 | n=>n,fun | 17=>1 | 18=>2 | 19=>3 | n=>n⟩
theorem Tryz.lays171:Go.Proofs.Lays.n171 Tryz.prog Tryz.lays171_ren:=by constructor <;> intros <;> kernel_rfl
open Go.RowKit Go.Sort Go.Lib in
theorem Tryz.strconv_Itoa_small (i:Nat) (hi:i<100) (w:World) :
  Calls Tryz.prog 211 #[.int .i64 i] w fun e w'=>e = .returned (.string ⟨(Lib.decDigits i).toArray⟩)∧w'=w:=Any.strconv_Itoa_small Tryz.lays171 i hi w
def Tryz.laysM173_ren:Go.Shelf.Ren:=⟨fun | 173=>173 | 246=>209 | 283=>219 | 284=>220 | 285=>221 | 286=>222 | 129=>227 | 317=>226 | 318=>228 | 319=>229 | 320=>230 | 337=>235 | 338=>236 | n=>n,fun | 2=>2 | 3=>3 | 9=>9 | 4=>4 | 171=>371 | 0=>0 | 53=>372 | 37=>66 | 5=>5 | 173=>375 | 212=>378 | 51=>379 | 20=>20 | 213=>380 | 46=>381 | 232=>386 | 233=>387 | n=>n,fun | 17=>1 | 18=>2 | 19=>3 | n=>n⟩
theorem Tryz.laysM173:Go.Proofs.LaysM.n173 Tryz.prog Tryz.laysM173_ren:=by constructor; constructor; all_goals (intros; kernel_rfl)
open Go.RowKit Go.Sort Go.Lib in
theorem Tryz.strconv_FormatInt_10 (n:Int) (h0 : -9223372036854775808≤n) (h1:n≤9223372036854775807) (w:World) (htab:Lib.TabIs Tryz.prog w "internal/strconv.uint64pow10" .u64 Lib.pow10Tab) :
  Calls Tryz.prog 173 #[.int .i64 n,.int .i64 10] w fun e w'=>e = .returned (.string ⟨(Lib.itoa n).toArray⟩)∧∃k os,w'=grow (w.drewN k) os:=Any.strconv_FormatInt_10 Tryz.laysM173 n h0 h1 w htab
def Tryz.laysC174_ren:Go.Shelf.Ren:=⟨fun | 174=>239 | 247=>240 | 245=>241 | 287=>242 | 279=>243 | 280=>244 | 281=>245 | 282=>246 | 321=>247 | 322=>248 | 316=>249 | 171=>211 | 205=>250 | 243=>223 | 246=>209 | 283=>219 | 284=>220 | 285=>221 | 286=>222 | 129=>227 | 317=>226 | 318=>228 | 319=>229 | 320=>230 | 337=>235 | 338=>236 | n=>n,fun | 9=>9 | 3=>3 | 2=>2 | 75=>260 | 85=>388 | 4=>4 | 167=>391 | 5=>5 | 53=>372 | 175=>392 | 46=>381 | 168=>394 | 37=>66 | 0=>0 | 210=>400 | 21=>21 | 127=>347 | 145=>404 | 143=>402 | 171=>371 | 173=>375 | 212=>378 | 51=>379 | 20=>20 | 213=>380 | 232=>386 | 233=>387 | 80=>41 | n=>n,fun | 15=>4 | 16=>5 | 17=>1 | 18=>2 | 19=>3 | n=>n⟩
theorem Tryz.laysC174:Go.Proofs.LaysC.n174 Tryz.prog Tryz.laysC174_ren:=by constructor; constructor; constructor; all_goals (intros; kernel_rfl)
open Go.RowKit in
theorem Tryz.strconv_ParseInt_10_at64_ok (s:ByteArray) (hmax:s.size≤9223372036854775806) (v:Int) (h:Lib.parseIntB 64 s.data.toList = .ok v) (w:World) :
  Calls Tryz.prog 239 #[.string s,.int .i64 10,.int .i64 64] w fun e w'=>e = .returned (.tuple #[.int .i64 v,.nilIface])∧(w'=w∨∃t,w'=Lib.bytesWorld w 5 t):=Any.strconv_ParseInt_10_at64_ok Tryz.laysC174 s hmax v h w
end
end Go.Proofs
