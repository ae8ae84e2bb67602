import Derived.Shelf.Strings.OnBuilder
import Derived.Shelf.Strings.BuilderK
import Derived.Shelf.Strconv.Itoa4
import Derived.Shelf.Strconv.ErrVarAll
import Derived.Shelf.Strconv.ErrVarParseInt
import Derived.Shelf.Strings.Shaped
import Derived.Shelf.Strings.Prefix
import Derived.Shelf.Strings.SplitShaped
import Derived.Shelf.Strings.Explode
import Derived.Shelf.Unicode.DecodeSlow
import Derived.Shelf.Unicode.IsSpaceAny
import Derived.Shelf.Strings.FieldsFuncAny
import Derived.Shelf.Unicode.ExclAny
import Derived.Shelf.Slices.Turned
import Derived.Shelf.Slices.SearchI
import Derived.Shelf.SlSortFuncK.PdqK
import Derived.Test.YthfpipieboophaaGreatDoorProg
namespace Go.Proofs.YthfpipieboophaaGreatDoor
set_option maxRecDepth 100000
set_option maxHeartbeats 40000000
open Go.Proofs.Tryz Go.Shelf Go.RowKit Go.Sort Go.Lib
def Tryz.lays170_ren:Go.Shelf.Ren:=⟨λ| 170=>61|n=>n,λ| 70=>123|3=>3|0=>0|72=>126|37=>124|5=>5|n=>n,λ| n=>n⟩
theorem Tryz.lays170:Go.Proofs.Lays.n170 prog Tryz.lays170_ren:=by constructor <;>first|kernel_rfl|(intro w;kernel_rfl)
def Tryz.lays169_ren:Go.Shelf.Ren:=⟨λ| 169=>62|n=>n,λ| 70=>123|9=>9|0=>0|72=>126|37=>124|127=>199|3=>3|5=>5|n=>n,λ| n=>n⟩
theorem Tryz.lays169:Go.Proofs.Lays.n169 prog Tryz.lays169_ren:=by constructor <;>first|kernel_rfl|(intro w;kernel_rfl)
theorem Tryz.Builder_Extra_169:Builder.Extra prog Tryz.lays169_ren:=by constructor <;>first|kernel_rfl|(intro w;kernel_rfl)|decide|(constructor <;>first|kernel_rfl|(intro w;kernel_rfl)|decide|(constructor <;>first|kernel_rfl|(intro w;kernel_rfl)))
def Tryz.lays156_ren:Go.Shelf.Ren:=⟨λ| 156=>114|165=>188|166=>78|169=>62|240=>147|241=>252|276=>220|277=>293|n=>n,λ| 31=>81|9=>9|3=>3|4=>4|0=>0|20=>20|72=>126|76=>150|70=>123|37=>124|75=>29|127=>199|164=>206|5=>5|80=>133|n=>n,λ| n=>n⟩
theorem Tryz.lays156:Go.Proofs.Lays.n156 prog Tryz.lays156_ren:=by constructor <;>first|kernel_rfl|(intro w;kernel_rfl)
theorem Tryz.Builder_Extra_156:Builder.Extra prog Tryz.lays156_ren:=by constructor <;>first|kernel_rfl|(intro w;kernel_rfl)|decide|(constructor <;>first|kernel_rfl|(intro w;kernel_rfl)|decide|(constructor <;>first|kernel_rfl|(intro w;kernel_rfl)))
theorem Tryz.strings_Join_none(a:Option Addr)(c:Nat)(sep:ByteArray)(w:World):
  Calls prog 114 #[.slice a 0 c,.string sep] w λe b=>e=.returned (.string ⟨#[]⟩)/\b=w:=Any.strings_Join_none Tryz.lays156 Tryz.Builder_Extra_156 a c sep w
theorem Tryz.strings_Join(f o c:Nat)(xs:List ByteArray)(sep:ByteArray)(w:World)(a:∀(j:Nat) x,xs[j]?=some x->w.cell? ⟨f,o+j,none⟩=some (.string x))(g:f<w.heap.size)(i:xs.length<=140737488355328)(b:xs.length<=c)(d:(Lib.join (xs.map (·.data.toList)) sep.data.toList).length<=140737488355328):
  Calls prog 114 #[.slice (some ⟨f,o,none⟩) xs.length c,.string sep] w λe h=>e=.returned (.string ⟨(Lib.join (xs.map (·.data.toList)) sep.data.toList).toArray⟩)/\Below w.heap.size w h:=Any.strings_Join Tryz.lays156 Tryz.Builder_Extra_156 f o c xs sep w a g i b d
theorem Tryz.Builder_Len_f(B b:Nat)(bs:List Value)(w:World)(h:Lib.IsBuilderF 126 5 B b bs w):
  Calls prog 61 #[.pointer (some ⟨b,0,none⟩)] w λe a=>e=.returned (.int .i64 bs.length)/\a=w:=Any.Builder_Len_f Tryz.lays170 B b bs w h
theorem Tryz.Builder_String_any_k(B b:Nat)(l:List UInt8)(w:World)(h:Lib.IsBuilderF 126 5 B b (Lib.byteCells l) w)(a:B<=w.heap.size):
  Calls prog 62 #[.pointer (some ⟨b,0,none⟩)] w λe c=>e=.returned (.string ⟨l.toArray⟩)/\(Lib.IsBuilderF 126 5 B b (Lib.byteCells l) c/\Below B w c/\Lib.OthersKept 5 (some b) w c):=Any.Builder_String_any_k Tryz.lays169 Tryz.Builder_Extra_169 B b l w h a
def Tryz.laysM171_ren:Go.Shelf.Ren:=⟨λ| 171=>113|243=>187|246=>158|283=>233|284=>234|285=>235|286=>236|129=>254|317=>288|318=>289|319=>290|320=>291|337=>315|338=>316|n=>n,λ| 3=>3|9=>9|2=>2|4=>4|171=>313|0=>0|53=>307|37=>124|5=>5|173=>316|212=>358|51=>239|20=>20|213=>359|46=>270|232=>390|233=>391|n=>n,λ| 17=>6|18=>9|19=>10|n=>n⟩
theorem Tryz.laysM171:Go.Proofs.LaysM.n171 prog Tryz.laysM171_ren:=by constructor <;>first|kernel_rfl|(intro w;kernel_rfl)|decide|(constructor <;>first|kernel_rfl|(intro w;kernel_rfl)|decide|(constructor <;>first|kernel_rfl|(intro w;kernel_rfl)))
theorem Tryz.strconv_Itoa(n:Int)(h0: -9223372036854775808<=n)(h1:n<=9223372036854775807)(w:World)(htab:Lib.TabIs prog w "internal/strconv.uint64pow10" .u64 Lib.pow10Tab):
  Calls prog 113 #[.int .i64 n] w λe w'=>e=.returned (.string ⟨(Lib.itoa n).toArray⟩)/\∃k os,w'=grow (w.drewN k) os:=Any.strconv_Itoa Tryz.laysM171 n h0 h1 w htab
def Tryz.laysM173_ren:Go.Shelf.Ren:=⟨λ| 173=>86|246=>158|283=>233|284=>234|285=>235|286=>236|129=>254|317=>288|318=>289|319=>290|320=>291|337=>315|338=>316|n=>n,λ| 2=>2|3=>3|9=>9|4=>4|171=>313|0=>0|53=>307|37=>124|5=>5|173=>316|212=>358|51=>239|20=>20|213=>359|46=>270|232=>390|233=>391|n=>n,λ| 17=>6|18=>9|19=>10|n=>n⟩
theorem Tryz.laysM173:Go.Proofs.LaysM.n173 prog Tryz.laysM173_ren:=by constructor <;>first|kernel_rfl|(intro w;kernel_rfl)|decide|(constructor <;>first|kernel_rfl|(intro w;kernel_rfl)|decide|(constructor <;>first|kernel_rfl|(intro w;kernel_rfl)))
theorem Tryz.strconv_FormatInt_10(n:Int)(h0: -9223372036854775808<=n)(h1:n<=9223372036854775807)(w:World)(htab:Lib.TabIs prog w "internal/strconv.uint64pow10" .u64 Lib.pow10Tab):
  Calls prog 86 #[.int .i64 n,.int .i64 10] w λe w'=>e=.returned (.string ⟨(Lib.itoa n).toArray⟩)/\∃k os,w'=grow (w.drewN k) os:=Any.strconv_FormatInt_10 Tryz.laysM173 n h0 h1 w htab
def Tryz.laysC172_ren:Go.Shelf.Ren:=⟨λ| 172=>161|244=>239|245=>157|247=>156|279=>229|280=>230|281=>231|282=>232|287=>228|316=>286|171=>113|205=>287|321=>284|322=>285|243=>187|246=>158|283=>233|284=>234|285=>235|286=>236|129=>254|317=>288|318=>289|319=>290|320=>291|337=>315|338=>316|n=>n,λ| 9=>9|3=>3|75=>29|76=>150|4=>4|5=>5|167=>306|37=>124|0=>0|85=>161|2=>2|168=>310|53=>307|175=>308|46=>270|210=>356|127=>199|145=>382|143=>380|21=>21|171=>313|173=>316|212=>358|51=>239|20=>20|213=>359|232=>390|233=>391|80=>133|n=>n,λ| 15=>4|16=>5|17=>6|18=>9|19=>10|n=>n⟩
theorem Tryz.laysC172:Go.Proofs.LaysC.n172 prog Tryz.laysC172_ren:=by constructor <;>first|kernel_rfl|(intro w;kernel_rfl)|decide|(constructor <;>first|kernel_rfl|(intro w;kernel_rfl)|decide|(constructor <;>first|kernel_rfl|(intro w;kernel_rfl)))
theorem Tryz.strconv_Atoi_ok(s:ByteArray)(a:s.size<=9223372036854775806)(v:Int)(h:Lib.atoiAll s.data.toList=.ok v)(w:World):
  Calls prog 161 #[.string s] w λe b=>e=.returned (.tuple #[.int .i64 v,.nilIface])/\(b=w∨∃t,b=Lib.bytesWorld w 5 t):=Any.strconv_Atoi_ok Tryz.laysC172 s a v h w
theorem Tryz.strconv_Atoi_syntax(s:ByteArray)(b:s.size<=281474976710656)(h:Lib.atoiAll s.data.toList=.«syntax»)(a:Value)(w:World)(f:w.cell? ⟨4,0,none⟩=some a)(c:a=.nilIface∨∃te g,a=.iface te g):
  Calls prog 161 #[.string s] w λe d=>∃N,e=.returned (.tuple #[.int .i64 (0),.iface 310 (.pointer (some ⟨N,0,none⟩))])/\w.heap.size<=N/\d.heap[N]?=some (.cells #[.string ⟨#[65,116,111,105]⟩,.string s,a] 356 (0,0))/\Below w.heap.size w d:=Any.strconv_Atoi_syntax Tryz.laysC172 s b h a w f c
theorem Tryz.strconv_Atoi_range(s:ByteArray)(b:s.size<=281474976710656)(h:Lib.atoiAll s.data.toList=.range)(a:Value)(w:World)(f:w.cell? ⟨5,0,none⟩=some a)(c:a=.nilIface∨∃te g,a=.iface te g):
  Calls prog 161 #[.string s] w λe d=>∃N,e=.returned (.tuple #[.int .i64 (Lib.atoiSat s.data.toList),.iface 310 (.pointer (some ⟨N,0,none⟩))])/\w.heap.size<=N/\d.heap[N]?=some (.cells #[.string ⟨#[65,116,111,105]⟩,.string s,a] 356 (0,0))/\Below w.heap.size w d:=Any.strconv_Atoi_range Tryz.laysC172 s b h a w f c
def Tryz.laysC174_ren:Go.Shelf.Ren:=⟨λ| 174=>85|247=>156|245=>157|287=>228|279=>229|280=>230|281=>231|282=>232|321=>284|322=>285|316=>286|171=>113|205=>287|243=>187|246=>158|283=>233|284=>234|285=>235|286=>236|129=>254|317=>288|318=>289|319=>290|320=>291|337=>315|338=>316|n=>n,λ| 9=>9|3=>3|2=>2|75=>29|85=>161|4=>4|167=>306|5=>5|53=>307|175=>308|46=>270|168=>310|37=>124|0=>0|210=>356|21=>21|127=>199|145=>382|143=>380|171=>313|173=>316|212=>358|51=>239|20=>20|213=>359|232=>390|233=>391|80=>133|n=>n,λ| 15=>4|16=>5|17=>6|18=>9|19=>10|n=>n⟩
theorem Tryz.laysC174:Go.Proofs.LaysC.n174 prog Tryz.laysC174_ren:=by constructor <;>first|kernel_rfl|(intro w;kernel_rfl)|decide|(constructor <;>first|kernel_rfl|(intro w;kernel_rfl)|decide|(constructor <;>first|kernel_rfl|(intro w;kernel_rfl)))
theorem Tryz.strconv_ParseInt_10_at64_ok(s:ByteArray)(a:s.size<=9223372036854775806)(v:Int)(h:Lib.parseIntB 64 s.data.toList=.ok v)(w:World):
  Calls prog 85 #[.string s,.int .i64 10,.int .i64 64] w λe b=>e=.returned (.tuple #[.int .i64 v,.nilIface])/\(b=w∨∃t,b=Lib.bytesWorld w 5 t):=Any.strconv_ParseInt_10_at64_ok Tryz.laysC174 s a v h w
theorem Tryz.strconv_ParseInt_10_at64_syntax(s:ByteArray)(b:s.size<=281474976710656)(h:Lib.parseIntB 64 s.data.toList=.«syntax»)(a:Value)(w:World)(f:w.cell? ⟨4,0,none⟩=some a)(c:a=.nilIface∨∃te g,a=.iface te g):
  Calls prog 85 #[.string s,.int .i64 10,.int .i64 64] w λe d=>∃N,e=.returned (.tuple #[.int .i64 (0),.iface 310 (.pointer (some ⟨N,0,none⟩))])/\w.heap.size<=N/\d.heap[N]?=some (.cells #[.string ⟨#[80,97,114,115,101,73,110,116]⟩,.string s,a] 356 (0,0))/\Below w.heap.size w d:=Any.strconv_ParseInt_10_at64_syntax Tryz.laysC174 s b h a w f c
theorem Tryz.strconv_ParseInt_10_at64_range(s:ByteArray)(b:s.size<=281474976710656)(h:Lib.parseIntB 64 s.data.toList=.range)(a:Value)(w:World)(f:w.cell? ⟨5,0,none⟩=some a)(c:a=.nilIface∨∃te g,a=.iface te g):
  Calls prog 85 #[.string s,.int .i64 10,.int .i64 64] w λe d=>∃N,e=.returned (.tuple #[.int .i64 (Lib.intSat 64 s.data.toList),.iface 310 (.pointer (some ⟨N,0,none⟩))])/\w.heap.size<=N/\d.heap[N]?=some (.cells #[.string ⟨#[80,97,114,115,101,73,110,116]⟩,.string s,a] 356 (0,0))/\Below w.heap.size w d:=Any.strconv_ParseInt_10_at64_range Tryz.laysC174 s b h a w f c
def Tryz.lays143_ren:Go.Shelf.Ren:=⟨λ| 143=>154|219=>225|217=>280|225=>281|224=>282|267=>283|266=>313|314=>314|n=>n,λ| 9=>9|3=>3|4=>4|5=>5|46=>270|146=>378|51=>239|n=>n,λ| 1=>3|n=>n⟩
theorem Tryz.lays143:Go.Proofs.Lays.n143 prog Tryz.lays143_ren:=by constructor <;>first|kernel_rfl|(intro w;kernel_rfl)
theorem Tryz.strings_Index_one(s:ByteArray)(c:UInt8)(w:World):
  Calls prog 154 #[.string s,.string ⟨#[c]⟩] w λe a=>e=.returned (.int .i64 (Lib.indexByte s.data.toList c))/\a=w:=Any.strings_Index_one Tryz.lays143 s c w
def Tryz.lays102_ren:Go.Shelf.Ren:=⟨λ| 102=>90|209=>160|207=>238|n=>n,λ| 9=>9|4=>4|3=>3|n=>n,λ| n=>n⟩
theorem Tryz.lays102:Go.Proofs.Lays.n102 prog Tryz.lays102_ren:=by constructor <;>first|kernel_rfl|(intro w;kernel_rfl)
theorem Tryz.strings_TrimSuffix(s p:ByteArray)(w:World)(b:s.size<=9223372036854775807):
  Calls prog 90 #[.string s,.string p] w λe a=>e=.returned (.string ⟨(Lib.trimSuffix s.data.toList p.data.toList).toArray⟩)/\a=w:=Any.strings_TrimSuffix Tryz.lays102 s p w b
def Tryz.lays146_ren:Go.Shelf.Ren:=⟨λ| 146=>80|221=>82|268=>152|138=>153|143=>154|195=>222|197=>223|218=>224|219=>225|260=>279|217=>280|225=>281|224=>282|267=>283|266=>313|314=>314|n=>n,λ| 9=>9|31=>81|3=>3|4=>4|0=>0|105=>292|21=>21|5=>5|46=>270|119=>158|139=>377|138=>376|146=>378|51=>239|n=>n,λ| 1=>3|3=>7|4=>8|n=>n⟩
theorem Tryz.lays146:Go.Proofs.Lays.n146 prog Tryz.lays146_ren:=by constructor <;>first|kernel_rfl|(intro w;kernel_rfl)
theorem Tryz.strings_Split(s sep:ByteArray)(m:Int)(w:World)(d:s.size<4294967281)(a:w.cell? ⟨3,0,none⟩=some (.int .i64 m))(c:1<=sep.size):
  Calls prog 80 #[.string s,.string sep] w λe b=>
   e=.returned (.slice (some ⟨w.heap.size,0,none⟩) (Lib.countB s sep+1) (Lib.countB s sep+1))/\b=w.alloc (.cells ((Lib.splitB sep 0 (Lib.countB s sep) s).map Value.string).toArray 9):=Any.strings_Split Tryz.lays146 (by kernel_rfl) s sep m w d a c
def Tryz.lays114_ren:Go.Shelf.Ren:=⟨λ| 114=>240|n=>n,λ| 28=>84|3=>3|4=>4|9=>9|20=>20|0=>0|n=>n,λ| n=>n⟩
theorem Tryz.lays114:Go.Proofs.Lays.n114 prog Tryz.lays114_ren:=by constructor <;>first|kernel_rfl|(intro w;kernel_rfl)
theorem Tryz.slices_Min_int(b off n c:Nat)(zs:List Int)(w:World)(g:0<n)(h:n<=zs.length)(a:n<=9223372036854775807)(f:∀j,j<zs.length->w.cell? ⟨b,off+j,none⟩=some (.int .i64 (zs.getD j 0))):
  Calls prog 240 #[.slice (some ⟨b,off,none⟩) n c] w λe d=>e=.returned (.int .i64 (Lib.minOf (zs.take n)))/\d=w:=Any.slices_Min_int Tryz.lays114 b off n c zs w g h a f
end Go.Proofs.YthfpipieboophaaGreatDoor
