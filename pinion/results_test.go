package pinion

const (
	low, top     = -1 << 63, 1<<63 - 1
	low32, top32 = -1 << 31, 1<<31 - 1
	some, other  = 0x123456789abcdef0, -0x123456789abcdf0
)

// result: what an op makes of two numbers; those below are what another machine, QEMU, made of them.
type result struct {
	op         string
	a, b, want int
}

var knownOfRegisters = []result{
	{"add", 3, -5, -2}, {"add", top, 1, low}, {"add", low, -1, top}, {"add", top32, 1, 1 << 31}, {"add", some, other, 1229782938247303424},
	{"sub", 3, -5, 8}, {"sub", top, 1, 9223372036854775806}, {"sub", low, -1, -9223372036854775807}, {"sub", top32, 1, 2147483646}, {"sub", some, other, 1393753996680277216},
	{"sll", 3, 5, 96}, {"sll", 1, 63, low}, {"sll", 1, 64, 1}, {"sll", -1, 63, low}, {"sll", -1, 64, -1}, {"sll", low, 63, 0}, {"sll", low, 62, 0}, {"sll", other, -1, 0}, {"sll", some, 4, 2541551405711093504},
	{"slt", 1, 2, 1}, {"slt", 2, 1, 0}, {"slt", 5, 5, 0}, {"slt", -1, 0, 1}, {"slt", 0, -1, 0}, {"slt", low, top, 1}, {"slt", top, low, 0},
	{"sltu", 1, 2, 1}, {"sltu", 2, 1, 0}, {"sltu", 5, 5, 0}, {"sltu", -1, 0, 0}, {"sltu", 0, -1, 1}, {"sltu", low, top, 0}, {"sltu", top, low, 1},
	{"xor", 12, 10, 6}, {"xor", -1, some, -1311768467463790321}, {"xor", low, top, -1}, {"xor", 0, -1, -1},
	{"srl", 3, 5, 0}, {"srl", 1, 63, 0}, {"srl", 1, 64, 1}, {"srl", -1, 63, 1}, {"srl", -1, 64, -1}, {"srl", low, 63, 1}, {"srl", low, 62, 2}, {"srl", other, -1, 1}, {"srl", some, 4, 81985529216486895},
	{"sra", 3, 5, 0}, {"sra", 1, 63, 0}, {"sra", 1, 64, 1}, {"sra", -1, 63, -1}, {"sra", -1, 64, -1}, {"sra", low, 63, -1}, {"sra", low, 62, -2}, {"sra", other, -1, -1}, {"sra", some, 4, 81985529216486895},
	{"or", 12, 10, 14}, {"or", -1, some, -1}, {"or", low, top, -1}, {"or", 0, -1, -1},
	{"and", 12, 10, 8}, {"and", -1, some, some}, {"and", low, top, 0}, {"and", 0, -1, 0},
	{"mul", 3, 5, 15}, {"mul", 0, 5, 0}, {"mul", 0, -5, 0}, {"mul", -5, 0, 0}, {"mul", -3, 5, -15}, {"mul", 3, -5, -15}, {"mul", -1, -1, 1}, {"mul", low, low, 0}, {"mul", low, -1, low}, {"mul", -1, low, low}, {"mul", low, top, low}, {"mul", top, low, low}, {"mul", top, top, 1}, {"mul", some, other, 2552847189736476416}, {"mul", other, some, 2552847189736476416}, {"mul", other, other, -2383410429355736832},
	{"mulh", 3, 5, 0}, {"mulh", 0, 5, 0}, {"mulh", 0, -5, 0}, {"mulh", -5, 0, 0}, {"mulh", -3, 5, -1}, {"mulh", 3, -5, -1}, {"mulh", -1, -1, 0}, {"mulh", low, low, 1 << 62}, {"mulh", low, -1, 0}, {"mulh", -1, low, 0}, {"mulh", low, top, -1 << 62}, {"mulh", top, low, -1 << 62}, {"mulh", top, top, 1<<62 - 1}, {"mulh", some, other, -5830082077616846}, {"mulh", other, some, -5830082077616846}, {"mulh", other, other, 364380129851052},
	{"mulhsu", 3, 5, 0}, {"mulhsu", 0, 5, 0}, {"mulhsu", 0, -5, 0}, {"mulhsu", -5, 0, 0}, {"mulhsu", -3, 5, -1}, {"mulhsu", 3, -5, 2}, {"mulhsu", -1, -1, -1}, {"mulhsu", low, low, -1 << 62}, {"mulhsu", low, -1, low}, {"mulhsu", -1, low, -1}, {"mulhsu", low, top, -1 << 62}, {"mulhsu", top, low, 1<<62 - 1}, {"mulhsu", top, top, 1<<62 - 1}, {"mulhsu", some, other, 1305938385386173474}, {"mulhsu", other, some, -5830082077616846}, {"mulhsu", other, other, -81621149086635844},
	{"mulhu", 3, 5, 0}, {"mulhu", 0, 5, 0}, {"mulhu", 0, -5, 0}, {"mulhu", -5, 0, 0}, {"mulhu", -3, 5, 4}, {"mulhu", 3, -5, 2}, {"mulhu", -1, -1, -2}, {"mulhu", low, low, 1 << 62}, {"mulhu", low, -1, top}, {"mulhu", -1, low, top}, {"mulhu", low, top, 1<<62 - 1}, {"mulhu", top, low, 1<<62 - 1}, {"mulhu", top, top, 1<<62 - 1}, {"mulhu", some, other, 1305938385386173474}, {"mulhu", other, some, 1305938385386173474}, {"mulhu", other, other, -163606678303122740},
	{"div", 7, 2, 3}, {"div", -7, 2, -3}, {"div", 7, -2, -3}, {"div", -7, -2, 3}, {"div", 0, 7, 0}, {"div", 7, 0, -1}, {"div", -7, 0, -1}, {"div", 0, 0, -1}, {"div", low, -1, low}, {"div", -1, low, 0}, {"div", low, 0, -1}, {"div", low, 1, low}, {"div", top, -1, -9223372036854775807}, {"div", some, 1000, 1311768467463790}, {"div", other, 1000, -81985529216486},
	{"divu", 7, 2, 3}, {"divu", -7, 2, 9223372036854775804}, {"divu", 7, -2, 0}, {"divu", -7, -2, 0}, {"divu", 0, 7, 0}, {"divu", 7, 0, -1}, {"divu", -7, 0, -1}, {"divu", 0, 0, -1}, {"divu", low, -1, 0}, {"divu", -1, low, 1}, {"divu", low, 0, -1}, {"divu", low, 1, low}, {"divu", top, -1, 0}, {"divu", some, 1000, 1311768467463790}, {"divu", other, 1000, 18364758544493064},
	{"rem", 7, 2, 1}, {"rem", -7, 2, -1}, {"rem", 7, -2, 1}, {"rem", -7, -2, -1}, {"rem", 0, 7, 0}, {"rem", 7, 0, 7}, {"rem", -7, 0, -7}, {"rem", 0, 0, 0}, {"rem", low, -1, 0}, {"rem", -1, low, -1}, {"rem", low, 0, low}, {"rem", low, 1, 0}, {"rem", top, -1, 0}, {"rem", some, 1000, 320}, {"rem", other, 1000, -896},
	{"remu", 7, 2, 1}, {"remu", -7, 2, 1}, {"remu", 7, -2, 7}, {"remu", -7, -2, -7}, {"remu", 0, 7, 0}, {"remu", 7, 0, 7}, {"remu", -7, 0, -7}, {"remu", 0, 0, 0}, {"remu", low, -1, low}, {"remu", -1, low, top}, {"remu", low, 0, low}, {"remu", low, 1, 0}, {"remu", top, -1, top}, {"remu", some, 1000, 320}, {"remu", other, 1000, 720},
	{"addw", 3, -5, -2}, {"addw", top32, 1, low32}, {"addw", low32, -1, top32}, {"addw", 1 << 31, 0, low32}, {"addw", 1<<32 + 3, 4, 7}, {"addw", low32, 1, -2147483647}, {"addw", some, other, 286331136},
	{"subw", 3, -5, 8}, {"subw", top32, 1, 2147483646}, {"subw", low32, -1, -2147483647}, {"subw", 1 << 31, 0, low32}, {"subw", 1<<32 + 3, 4, -1}, {"subw", low32, 1, top32}, {"subw", some, other, 610839776},
	{"sllw", 3, 5, 96}, {"sllw", 1, 31, low32}, {"sllw", 1, 32, 1}, {"sllw", -1, 31, low32}, {"sllw", -1, 32, -1}, {"sllw", 1 << 31, 31, 0}, {"sllw", 1 << 32, 1, 0}, {"sllw", other, -1, 0}, {"sllw", some, 4, -1412567296}, {"sllw", -1, 63, low32},
	{"srlw", 3, 5, 0}, {"srlw", 1, 31, 0}, {"srlw", 1, 32, 1}, {"srlw", -1, 31, 1}, {"srlw", -1, 32, -1}, {"srlw", 1 << 31, 31, 1}, {"srlw", 1 << 32, 1, 0}, {"srlw", other, -1, 0}, {"srlw", some, 4, 162254319}, {"srlw", -1, 63, 1},
	{"sraw", 3, 5, 0}, {"sraw", 1, 31, 0}, {"sraw", 1, 32, 1}, {"sraw", -1, 31, -1}, {"sraw", -1, 32, -1}, {"sraw", 1 << 31, 31, -1}, {"sraw", 1 << 32, 1, 0}, {"sraw", other, -1, 0}, {"sraw", some, 4, -106181137}, {"sraw", -1, 63, -1},
	{"mulw", 3, 5, 15}, {"mulw", -3, 5, -15}, {"mulw", 65536, 32768, low32}, {"mulw", 65536, 65536, 0}, {"mulw", -1, -1, 1}, {"mulw", 1<<32 + 3, 5, 15}, {"mulw", some, other, 1444466432},
	{"divw", 7, 2, 3}, {"divw", -1, 1, -1}, {"divw", low32, 1, low32}, {"divw", 1 << 31, 1, low32}, {"divw", 1 << 31, 3, -715827882}, {"divw", -7, 2, -3}, {"divw", 7, -2, -3}, {"divw", -7, -2, 3}, {"divw", 7, 0, -1}, {"divw", -7, 0, -1}, {"divw", low32, -1, low32}, {"divw", 1 << 31, -1, low32}, {"divw", -1, low32, 0}, {"divw", low32, 0, -1}, {"divw", 1 << 31, 0, -1}, {"divw", 1 << 32, 5, 0}, {"divw", 1<<32 + 7, 2, 3}, {"divw", 5, 1 << 32, -1}, {"divw", 1<<32 - 1, 10, 0}, {"divw", some, 1000, -1698898}, {"divw", other, 1000, 1985229},
	{"divuw", 7, 2, 3}, {"divuw", -1, 1, -1}, {"divuw", low32, 1, low32}, {"divuw", 1 << 31, 1, low32}, {"divuw", 1 << 31, 3, 715827882}, {"divuw", -7, 2, 2147483644}, {"divuw", 7, -2, 0}, {"divuw", -7, -2, 0}, {"divuw", 7, 0, -1}, {"divuw", -7, 0, -1}, {"divuw", low32, -1, 0}, {"divuw", 1 << 31, -1, 0}, {"divuw", -1, low32, 1}, {"divuw", low32, 0, -1}, {"divuw", 1 << 31, 0, -1}, {"divuw", 1 << 32, 5, 0}, {"divuw", 1<<32 + 7, 2, 3}, {"divuw", 5, 1 << 32, -1}, {"divuw", 1<<32 - 1, 10, 429496729}, {"divuw", some, 1000, 2596069}, {"divuw", other, 1000, 1985229},
	{"remw", 7, 2, 1}, {"remw", -1, 1, 0}, {"remw", low32, 1, 0}, {"remw", 1 << 31, 1, 0}, {"remw", 1 << 31, 3, -2}, {"remw", -7, 2, -1}, {"remw", 7, -2, 1}, {"remw", -7, -2, -1}, {"remw", 7, 0, 7}, {"remw", -7, 0, -7}, {"remw", low32, -1, 0}, {"remw", 1 << 31, -1, 0}, {"remw", -1, low32, -1}, {"remw", low32, 0, low32}, {"remw", 1 << 31, 0, low32}, {"remw", 1 << 32, 5, 0}, {"remw", 1<<32 + 7, 2, 1}, {"remw", 5, 1 << 32, 5}, {"remw", 1<<32 - 1, 10, -1}, {"remw", some, 1000, -192}, {"remw", other, 1000, 328},
	{"remuw", 7, 2, 1}, {"remuw", -1, 1, 0}, {"remuw", low32, 1, 0}, {"remuw", 1 << 31, 1, 0}, {"remuw", 1 << 31, 3, 2}, {"remuw", -7, 2, 1}, {"remuw", 7, -2, 7}, {"remuw", -7, -2, -7}, {"remuw", 7, 0, 7}, {"remuw", -7, 0, -7}, {"remuw", low32, -1, low32}, {"remuw", 1 << 31, -1, low32}, {"remuw", -1, low32, top32}, {"remuw", low32, 0, low32}, {"remuw", 1 << 31, 0, low32}, {"remuw", 1 << 32, 5, 0}, {"remuw", 1<<32 + 7, 2, 1}, {"remuw", 5, 1 << 32, 5}, {"remuw", 1<<32 - 1, 10, 5}, {"remuw", some, 1000, 104}, {"remuw", other, 1000, 328},
}

// knownOfImms: the second number is the Imm.
var knownOfImms = []result{
	{"addi", 5, -2048, -2043}, {"addi", top, 1, low}, {"addi", low, -1, top}, {"addi", 0, 2047, 2047},
	{"slti", -5, -4, 1}, {"slti", -4, -4, 0}, {"slti", low, -2048, 1}, {"slti", 0, -1, 0}, {"slti", 5, 2047, 1},
	{"sltiu", 5, 6, 1}, {"sltiu", 6, 6, 0}, {"sltiu", 5, -1, 1}, {"sltiu", -1, -1, 0}, {"sltiu", -2, -1, 1}, {"sltiu", 0, 1, 1}, {"sltiu", -2048, -2047, 1}, {"sltiu", 4095, -1, 1},
	{"xori", some, -1, -1311768467463790321}, {"xori", 12, 10, 6},
	{"ori", 12, 10, 14}, {"ori", 0, -2048, -2048},
	{"andi", 12, 10, 8}, {"andi", some, -1, some}, {"andi", -1, -2048, -2048},
	{"slli", 1, 63, low}, {"slli", 3, 0, 3}, {"slli", 1, 32, 1 << 32},
	{"srli", -1, 63, 1}, {"srli", low, 32, 1 << 31}, {"srli", -1, 0, -1},
	{"srai", low, 63, -1}, {"srai", low, 32, low32}, {"srai", some, 4, 81985529216486895}, {"srai", other, 0, other},
	{"addiw", top32, 1, low32}, {"addiw", low32, -1, top32}, {"addiw", 1 << 31, 0, low32}, {"addiw", 1<<32 + 3, -4, -1}, {"addiw", 0, -2048, -2048},
	{"slliw", 1, 31, low32}, {"slliw", 1 << 31, 1, 0}, {"slliw", some, 0, -1698898192},
	{"srliw", -1, 31, 1}, {"srliw", -1, 1, top32}, {"srliw", -1, 0, -1}, {"srliw", 1 << 32, 1, 0},
	{"sraiw", 1 << 31, 31, -1}, {"sraiw", 1 << 32, 1, 0}, {"sraiw", other, 4, 124076833}, {"sraiw", -1, 0, -1}, {"sraiw", 1 << 31, 0, low32},
}
