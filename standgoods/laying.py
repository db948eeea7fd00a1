"""Which pieces to lay in, so that most are served."""

from standgoods.serving import all_far_down, count_served, serve_all


def all_stocks(goods, count):
    """Every stock of exactly so many pieces; of two the one that has less at the first good where they differ first."""
    if goods == 1:
        return [[count]]
    stocks = []
    for first in range(count + 1):
        for rest in all_stocks(goods - 1, count - first):
            stocks.append([first] + rest)
    return stocks


def best_stock(goods, count, lists):
    """The stock of so many pieces with which most are served; of alike ones that with which all are less far down."""
    stocks = all_stocks(goods, count)
    best = stocks[0]
    best_worth = worth(best, lists)
    for stock in stocks:
        stock_worth = worth(stock, lists)
        # Only a better one takes the place, so of alike ones the first stays.
        if stock_worth > best_worth:
            best = stock
            best_worth = stock_worth
    return best


def worth(stock, lists):
    """What tells two stocks apart: the greater, the better."""
    taken = serve_all(stock, lists)
    return (count_served(taken), -sum(all_far_down(lists, taken)))
