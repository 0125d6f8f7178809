"""Three texts of programs."""


def tally_text():
    """Two threads that count up one cell under a lock."""
    return """shared int sum[1]
lock door
function main()
  int had
  int turn
end
body main
  @turn = 0
  while @turn < 3
    take door
    @had = *$sum
    *$sum = @had + 1
    leave door
    @turn = @turn + 1
  end
  give *$sum
end
thread main
thread main"""


def sorter_text():
    """Asks for ints, and gives them ascending."""
    return """function main()
  int spot
  int here
  int many
  int value
  int* row
end
body main
  @many = ask(1, 16)
  @row = make int[@many]
  @spot = 0
  while @spot < @many
    @value = ask(-2147483648, 2147483647)
    @here = @spot
    while 0 < @here and @value < @row[@here - 1]
      @row[@here] = @row[@here - 1]
      @here = @here - 1
    end
    @row[@here] = @value
    @spot = @spot + 1
  end
  @spot = 0
  while @spot < @many
    give @row[@spot]
    @spot = @spot + 1
  end
  away @row
end
thread main"""


def spill_text():
    """Goes wrong in three ways, or not, by its inputs."""
    return """function main()
  int spot
  int times
  int* row
end
body main
  @times = ask(0, 9)
  @row = make int[4]
  @spot = 0
  while @spot < @times
    @row[@spot] = @spot
    @spot = @spot + 1
  end
  give @row[3]
  away @row
  @times = ask(0, 1)
  if @times
    give *@row
  end
end
thread main"""
