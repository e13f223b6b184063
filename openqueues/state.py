"""The network that an instance holds: its stations, its rates and its weights."""


class Network:
    def __init__(self, station_count, class_count):
        place_count = station_count * class_count
        self.station_count = station_count
        self.class_count = class_count
        self.place_count = place_count
        self.kinds = [0] * station_count
        self.servers = [1] * station_count
        self.service_rates = [1] * place_count
        self.arrival_rates = [0] * place_count
        self.route_weights = [[0] * place_count for place in range(place_count)]
        self.leaving_weights = [0] * place_count

    def has_station(self, station):
        return station < self.station_count

    def has_place(self, station, customer_class):
        return self.has_station(station) and customer_class < self.class_count

    # Places are ordered by class and then by station.
    def place_of(self, station, customer_class):
        return customer_class * self.station_count + station

    def station_of(self, place):
        return place % self.station_count

    def set_all_services(self, station, service):
        for customer_class in range(self.class_count):
            self.service_rates[self.place_of(station, customer_class)] = service
